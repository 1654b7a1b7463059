import PyProof.Rows.All
import Wide.All
import OpenK.AllK
import Wide.FinOn
import Lean
import PyProof.EqAt
import PyProof.EqKinds
import PyProof.TupleCall
import PySem.Challenge.RW_motiffield_k37_whole_cells
set_option Elab.async false
set_option linter.all false
set_option maxRecDepth 100000
set_option maxHeartbeats 4000000
open PySem.W renaming Frag->Ex,findIn->EZ,mroIn->F6,OpenLaw->GX,clsIn->G1,WalkO->Hv
open Nat renaming le_refl->ER,ne_of_lt->E3,le_trans->E4,lt_of_lt_of_le->Fo,zero_le->Fp,pow_succ->Fu,pow_le_pow_right->FI,pow_pos->FP,lt_irrefl->FR,ne_of_gt->FT,le_succ->FV,lt_or_ge->Gb,zero_add->Gv,le_of_lt->Gw,le_of_eq->Gz,le_of_not_lt->GC,mul_le_mul->G6,add_comm->Ha,le_max_left->Hb,le_max_right->Hc,pow_add->Hd,not_lt_zero->Hf,lt_succ_self->Hr,lt_of_le_of_lt->Hw,lt_succ_of_lt->Hz,add_sub_add_right->HA,succ_ne_self->HG,add_sub_cancel->HN,strongRecOn->HX,mod_eq_of_lt->HY,min_eq_left->H9,mul_succ->Ib
open List renaming mem_singleton->ES,range->ET,mem_cons->EU,mem_cons_of_mem->EV,length_cons->EW,mem_cons_self->EY,length_map->E1,length_append->E2,size_toArray->E5,mem_append_right->E7,getElem?_map->E8,map_cons->E9,getElem?_eq_some_iff->Fb,lookup_cons->Fd,getElem?_set_ne->Ff,set_cons_succ->Fh,set_cons_zero->Fi,getElem?_eq_getElem->Fj,mem_append->Fk,mem_map->Fq,map_append->Fv,append_assoc->Fz,append_nil->FA,replicate->FB,getElem_mem->FD,cons_append->FE,getElem?_range->FF,getElem?_set_self->FG,getElem?_append_left->FH,mem_append_left->FJ,nodup_cons->FK,getD->FL,getElem?_eq_none->FN,lookup->FU,getElem?_append_right->FW,map_nil->FX,not_mem_nil->FY,length_set->F7,any_cons->F8,find?_cons->F9,getElem?_set->Ga,all_eq_true->Gc,drop_eq_getElem_cons->Gg,length->Gi,length_drop->Gj,length_nil->Gk,map->Gm,ext_getElem?->Gn,range_succ->Go,nodup_append->Gp,map_map->Gr,filterMap_cons->Gx,length_take->GA,all_cons->GB,map_congr_left->GE,take_length->GL,of_mem_zip->GU,getElem?_replicate->GV,mem_of_getElem?->GW,forIn_cons->G0,drop->G2,eq_nil_of_length_eq_zero->G3,length_range->Hg,drop_of_length_le->Hi,drop_eq_nil_of_le->Hm,mem_filter->Ho,mem_filterMap->Hq,getElem?_take_of_lt->Hs,filterMap_map->Ht,nodup_nil->Hx,contains_cons->Hy,take_succ->HC,take_of_length_le->HD,dropLast_cons₂->HF,nil_append->HP,drop_zero->HZ,mem_of_mem_drop->Ig,drop_length->Ih,mem_iff_getElem?->Ii,length_pos_of_mem->Ij
open Bool renaming false_ne_true->E6,eq_false_iff->Fs,and_eq_true->FC,eq_iff_iff->Gy,or_true->GY
open Int renaming mul_pos->Fc,mul_comm->Fe,mul_le_mul_of_nonneg_right->Fg,toNat_of_nonneg->Fl,mul_ediv_cancel->Ft,emod_nonneg->Fw,emod_lt_of_pos->Fx,emod_def->Fy,mul_nonpos_of_nonpos_of_nonneg->FM,mul_neg->FO,add_zero->FQ,neg_mul->FZ,natAbs_mul->Gd,eq_of_mul_eq_mul_right->Ge,emod_add_mul_ediv->Gf,natCast_add->Gh,toNat->Gq,mul_eq_zero->Gs,lt_trichotomy->Gu,mul_emod_left->GF,dvd_mul_of_dvd_right->GH,zero_mul->GI,sub_zero->GJ,sub_self->GK,sub_mul->GM,add_mul->GN,add_assoc->GO,mul_zero->GP,zero_add->GQ,mul_neg_of_neg_of_pos->GR,neg_add->GS,le_trans->GT,mul_nonneg->G4,fmod_eq_zero_of_dvd->G5,mul_le_mul_of_nonneg_left->G7,eq_of_mul_eq_mul_left->G8,dvd_add->G9,toNat_natCast->Hj,ediv_nonneg->Hk,ediv_le_self->Hl,le_total->HH,fmod_nonneg_of_pos->HI,fmod_lt_of_pos->HJ,dvd_mul_of_dvd_left->HK,mul_fdiv_cancel_of_fmod_eq_zero->HL,dvd_antisymm->HM,add_mul_emod_self_right->HR,add_mul_ediv_right->HS,dvd_add_left->HU,dvd_mul_right->HV,sub_eq_add_neg->HW,natCast_emod->H8,ediv_eq_zero_of_lt->Ia,neg_neg->Ic,add_comm->Ie
open Array renaming length_toList->FS,getElem?_eq_some_iff->GD,append_assoc->Hn,all_toList->HB,getElem?_eq_getElem->HE,toList_inj->HQ
open Option renaming bind_some->GZ,getD_none->Hu
open PySem.W (InitBack any_some callWith_K callWith_K0 cellsFrom_some cls_value codeIn codeRec_of emptyDict eq_bytes findCls findObj_own fnOf get_value handedIn hasDictIn hideAll hideAll_get hideAll_none hideAll_size instObj isFn isNs_of_in kIn_of keepIn ki_setAt ki_setBack kia_one kitOne kitx_bool kitx_dict kitx_float kitx_int kitx_list kitx_none kitx_own kitx_str kitx_tuple kun_itemsOf len_bytes lookIn make_core makesIn makes_of methodCall_KW methodObj method_cls method_fn mg_none_of mg_of ne_bytes nsIn nsMap_none_of_in nsOkIn of_hideAll osa_open plainGet plainGet_of plainOver readsIn specialIn tailIn tail_of_in takerIn takesIn truthy_bytes)
namespace PySem.W.Fast
def tw6125431712746495147:=()
def tw3343908759182182797:=()
def tw13276094036706487406:=()
def tw10231203453223280926:=()
def tw15216908680738211213:=()
def tw6859521326501013063:=()
def tw8314156668617293641:=()
def tw4370988374568866841:=()
def tw5500460864360413487:=()
def tw3691882744377767340:=()
def tw5039083682690982781:=()
def tw17207848356144673288:=()
def tw15736978085181915594:=()
def tw11387883906498097049:=()
def tw1859128873438084870:=()
def tw1765299620736377705:=()
def tw13588004049878578660:=()
def tw15011105945645228382:=()
def tw17623509219621616567:=()
def tw2967015722012307487:=()
def tw10522045135173550598:=()
def tw9023547970633091847:=()
def tw3077073507504852057:=()
def tw16310650601370633555:=()
def tw8599537961784316252:=()
def tw10074968799362317350:=()
def tw2990256485692374392:=()
def tw6075556324247777497:=()
def tw12869934351658281151:=()
def tw1784729696449575341:=()
def tw10944007461462466262:=()
def tw11827760510826038942:=()
def tw10750802652899719629:=()
def tw4642110933066285799:=()
def tw11534984835346309126:=()
def tw5279312316719453353:=()
def tw12098763598189638871:=()
def tw2137092866737062946:=()
def tw2493951245874008936:=()
def tw17546909726916865789:=()
def tw2502625779944371975:=()
def tw12022154700786405882:=()
def tw1176671041303805426:=()
def tw13118964616827622949:=()
def tw6194336446953706317:=()
def tw7735667582826892290:=()
def tw497764733031822463:=()
def tw274725153912705423:=()
def tw16158118800641497911:=()
def tw3691304067572465627:=()
def tw2802914602316632900:=()
def tw2243668176908176646:=()
def tw18357879408093991044:=()
def tw4361174678344382363:=()
def tw10289690784772629456:=()
def tw7385618848804753451:=()
def tw15704068280418377848:=()
def tw14175902429910170761:=()
def tw17940704028374032156:=()
def tw12305577111041535233:=()
def tw5412181117041748421:=()
def tw16056879340882742419:=()
def tw6600649787179174712:=()
def tw6317181618346780764:=()
def tw18147424461379158752:=()
def tw8215721639374732915:=()
def tw4264970216061354150:=()
def tw11118306281711740852:=()
def tw2127892357403465457:=()
def tw2420410768777500330:=()
def tw17568052917380591077:=()
def tw186055146013538921:=()
def tw14958554566301533890:=()
def tw598029176412011347:=()
def tw8443790110491480147:=()
def tw12842869589141657685:=()
def tw1185656446326370644:=()
def tw259668090374537582:=()
def tw17938662836094210855:=()
def tw4722626114687119274:=()
def tw4473810042505668576:=()
def tw16852108939129474481:=()
def tw3939458874006182479:=()
def tw12683311831408680560:=()
def tw506852577819259582:=()
def tw14511028708653038080:=()
def tw1836777668941472709:=()
def tw4681014947079207149:=()
def tw9792452251274484165:=()
def tw15718349981987131324:=()
def tw17560934603473142147:=()
def tw8080887413877721727:=()
def tw4594105761035436920:=()
def tw1674421889107782246:=()
def tw260174824469875000:=()
def tw9814408883006806239:=()
def tw699697051256538676:=()
def tw562293948611610194:=()
def tw1563053648894915391:=()
def tw3795308764655133876:=()
def tw16630087187183889087:=()
def tw16035819793895166220:=()
def tw16649806390078346160:=()
def tw5395092282125274463:=()
def tw13426091756776177022:=()
def tw17895581015534158122:=()
def tw612882573395352685:=()
def tw1734603253011864829:=()
def tw5053009093045403711:=()
def tw10416659199665706841:=()
def tw3283708550725661742:=()
def tw4788378975927391481:=()
def tw4377229598004872356:=()
def tw14924857839090905835:=()
def tw17914754831957978753:=()
def tw15368255034414976824:=()
def tw16292462167976362592:=()
def tw6809713724605185742:=()
def tw16304595680079711397:=()
def tw14439315082952014010:=()
def tw12569005460638815094:=()
def tw12163983179247858887:=()
def tw6389571632816159301:=()
def tw2037520413229165697:=()
def tw3790367151854162047:=()
def tw6708217866795624062:=()
def tw1107599109470022174:=()
def tw10380675098631667609:=()
def tw4487336350613231992:=()
def tw13108289197063722295:=()
def tw7097849870305903084:=()
def tw9651794320635331956:=()
def tw9034068106290782323:=()
def tw13709106508374806397:=()
def tw11068201214255083146:=()
def tw15940171395876579274:=()
def tw7514265472228542809:=()
def tw1261020639349572678:=()
def tw12900802242384279021:=()
def tw17958667850038021486:=()
def tw5444357544292587801:=()
def tw11784483851885348742:=()
def tw5574905637426740415:=()
def tw655006072374706092:=()
def tw14005604854104958994:=()
def tw13547090152008121996:=()
def tw18258102972677512969:=()
def tw11748578218912091574:=()
def tw17282109799291335798:=()
def tw10814030955781441575:=()
def tw285799128634441840:=()
def tw17309018858856497811:=()
def tw1539057351650182645:=()
def tw15437416760657967681:=()
def tw16705476928963690639:=()
def tw10898589329182226955:=()
def tw10759571708986597385:=()
def tw7896094927825704126:=()
def tw5990460746198555635:=()
def tw908634839603711377:=()
def tw12527189851413407960:=()
def tw6163996827787957416:=()
def tw196219091133719565:=()
def tw15786479351981390103:=()
def tw3701782808546548639:=()
def tw16594552621095545584:=()
def tw15366128053271019877:=()
def tw13130813925037442152:=()
def tw18435513669051261911:=()
def tw10299134652463119847:=()
def tw1272292137079824367:=()
def tw9293664635293424797:=()
def tw5036686916939855562:=()
def tw10317583205693305602:=()
def tw3161543395769167080:=()
def tw11800811704505882120:=()
def tw9326320640530805215:=()
def tw9090894060332851075:=()
def tw4039766651911959323:=()
def tw10466011202922612493:=()
def tw5935520619109459306:=()
def tw14255672213147567820:=()
def tw196175425833985038:=()
def tw11434096430865028968:=()
def tw9977059769081366473:=()
def tw7704728769360916207:=()
def tw1889810752966312051:=()
def tw16706519043450200490:=()
def tw6139782123693652712:=()
def tw9661881140351423931:=()
def tw2005092586969855681:=()
def tw7894561637740622786:=()
def tw8042774325102908201:=()
def tw9596394861095018641:=()
def tw15091954388196275573:=()
def tw6792356327349377562:=()
def tw15506380001514386690:=()
def tw838743733195474914:=()
def tw10679274360700465295:=()
def tw11615785461971077215:=()
def tw15763021754181551780:=()
def tw8299742743480389115:=()
def tw9606201956762367889:=()
def tw14405091097546928656:=()
def tw15262320205368883263:=()
def tw3898442943962180049:=()
def tw18365967771716917767:=()
def tw10452609109488717674:=()
def tw3468220540742145550:=()
def tw493274420967308010:=()
def tw12172723993028453068:=()
def tw6530511228895889030:=()
def tw12714242287913857144:=()
def tw15221678102252727018:=()
def tw6465839558319027430:=()
def tw6162328231831478101:=()
def tw9766607105648133284:=()
def tw15440168277650985359:=()
def tw14848184985349808270:=()
def tw7990741498969261316:=()
def tw15279544493653895891:=()
def tw11911452715120653335:=()
def tw1383171397874941010:=()
def tw7602133871571127044:=()
def tw2954530509955861504:=()
def tw6894461493218926283:=()
def tw17122798765310489905:=()
def tw8476564005447688411:=()
def tw17009261694837330983:=()
def tw10162011262867972770:=()
def tw6878230520861190184:=()
def tw13894922709719776393:=()
def tw13338893526384412053:=()
def tw4563227529688281987:=()
def tw6691397606691571239:=()
def tw5796786033227884647:=()
def tw2683439658820331082:=()
def tw6536094628422437868:=()
def tw5920130857578747392:=()
def tw7768198332958952726:=()
def tw9517578974874640963:=()
def tw2503974235973465431:=()
def tw14657579308457282411:=()
def tw11557280033951068680:=()
def tw14314550367003844561:=()
def tw9595447613012139052:=()
def tw18182235686729458933:=()
def tw14408105084549088201:=()
def tw9129400700481639736:=()
def tw4191963027815669760:=()
def tw6772140392193058642:=()
def tw290483606056174139:=()
def tw7863678468900264573:=()
def tw15126518670839566634:=()
def tw4457473663620607198:=()
def tw7486083510614856752:=()
def tw12293594805123249777:=()
def tw7052676819570145056:=()
def tw10191046442700607393:=()
def tw6447771341635087135:=()
def tw1621451187447830852:=()
def tw4452314784100694564:=()
def tw16853857833716224875:=()
def tw3345702765968758622:=()
def tw2950192734526945817:=()
def tw12197220306618487342:=()
def tw7505922497434514060:=()
def tw11510985802257032138:=()
def tw3373724633658287933:=()
def tw7610224073515081456:=()
def tw12124982966457082154:=()
def tw13441862402799728834:=()
def tw18317346373674315780:=()
def tw10080993807806309096:=()
def tw6449833090198181054:=()
def tw14468355648075478143:=()
def tw1842826683821884114:=()
def tw2329009237642468269:=()
def tw16107947274386445771:=()
def tw10645074454460992938:=()
def tw15577776161230184920:=()
def tw5726986264909680427:=()
def tw13198596512583075711:=()
def tw61958868794753914:=()
def tw1852080445162562170:=()
def tw13934248856028514332:=()
def tw1011466397638088220:=()
def tw901616115607457800:=()
def tw14473071130647552872:=()
def tw10280819475482816288:=()
def tw4497898666047818398:=()
def tw11333278006782689701:=()
def tw4484149716853958056:=()
def tw10229880884450753540:=()
def tw15829879399002816075:=()
def tw5497168263309139203:=()
def tw4863079808019659587:=()
def tw11075679015418989899:=()
def tw16541954016474695624:=()
def tw15532910124951606329:=()
def tw356985424481903418:=()
def tw6216195871339710059:=()
def tw15444620113550754497:=()
def tw1622430868940378402:=()
def tw15730266757368959583:=()
def tw15425829817912608436:=()
def tw9608111815634826923:=()
def tw10769163049498026188:=()
def tw9922249347369299371:=()
def tw3297898796018180774:=()
def tw4607318645592044494:=()
def tw1470238326438649572:=()
def tw14806872901605060798:=()
def tw16533849732520314389:=()
def tw5170851857202756472:=()
def tw2381617973975770552:=()
def tw12673877404980138842:=()
def tw5956055088727768062:=()
def tw13956081830434894871:=()
def tw2334122919899119191:=()
def tw10015047361436645245:=()
def tw15031015905952764117:=()
def tw11520313294220313008:=()
def tw735260055723317156:=()
def tw12372158909220972303:=()
def tw9583401621488137823:=()
def tw9013609460193506984:=()
def tw781026299023246766:=()
def tw17182567689580447095:=()
def tw2054285556962248629:=()
def tw4643099922151331508:=()
def tw15685695505853712634:=()
def tw10270548169703122143:=()
def tw7116078070765262125:=()
def tw358451461095699040:=()
def tw14816993837221393205:=()
def tw10989091838036492821:=()
def tw1719185851473442197:=()
def tw3712955924527777304:=()
def tw11106530526223954444:=()
def tw16668464001409018580:=()
def tw6350732338791822202:=()
def tw17604101349221881657:=()
def tw6186686075277475529:=()
def tw14092315144894852440:=()
def tw12638402799260634281:=()
def tw11563902597895439126:=()
def tw4787299326657646156:=()
def tw8148693504848093553:=()
def tw4420827692330368641:=()
def tw7588857399746550111:=()
def tw11325572151146307917:=()
def tw973235855288632185:=()
def tw17786264401043197321:=()
def tw10650204865610436662:=()
def tw14725084518874390472:=()
def tw7022883681673758099:=()
def tw8550521455922406511:=()
def tw11782321376458509041:=()
def tw17378853948660460424:=()
def tw17559860491011109164:=()
def tw13579081278322382656:=()
def tw7730916887556732789:=()
def tw14174628732787858035:=()
def tw12548556128942142605:=()
def tw3463931879592617895:=()
def tw15218241338082318677:=()
def tw11159864737990210637:=()
def tw6538297741874308040:=()
def tw14207841308070110257:=()
def tw8632952172663242703:=()
def tw8463530425863782367:=()
def tw16528710784542384110:=()
def tw17021001292927001364:=()
def tw11674030258943706217:=()
def tw16201823804552461717:=()
def tw3061106072961133429:=()
def tw11987877975480687777:=()
def tw17054156661063955754:=()
def tw4473241314307542026:=()
def tw17449044068189423178:=()
def tw4762154034076822402:=()
def tw7998274413362574988:=()
def tw9214404107849215795:=()
def tw4387351776672383162:=()
def tw6132183376815553294:=()
def tw12627389298111476231:=()
def tw6042565810863732037:=()
def tw17388787574479795111:=()
def tw18013117477480998784:=()
def tw11510471219974888806:=()
def tw15925800754854116453:=()
def tw13415241618216878822:=()
def tw15798489989366224476:=()
def tw9152417219548820348:=()
def tw2970270370974000657:=()
def tw14129834994429421832:=()
def tw11945644426259873132:=()
def tw6591030484768066132:=()
def tw12687673650486144126:=()
def tw15862361412827462368:=()
def tw17910777362261048956:=()
def tw13119350946132905359:=()
end PySem.W.Fast
section
namespace L2
open PySem PySem.Spec PyProof.Rows
abbrev Key:=Sum Int Str
def dS:Key->Value->Bool
 | .inl k,v=>Value.isInt k v
 | .inr x,v=>Value.isStrOf x v
def keyH(w:World):Key->Int
 | .inl k=>hashInt k
 | .inr x=>hashStr w x
theorem keyIs_shape:∀ {k:Key} {v:Value},dS k v=true->(∃ i t,k=Sum.inl i/\v=Value.int i t)\/(∃ x t,k=Sum.inr x/\v=Value.str x t)
 | .inl i,v,h=>by
  obtain⟨t,e⟩:=Value.isInt_shape (k:=i) (v:=v) h
  exact .inl ⟨i,t,rfl,e⟩
 | .inr x,v,h=>by
  obtain⟨t,e⟩:=Value.isStrOf_shape (x:=x) (v:=v) h
  exact .inr ⟨x,t,rfl,e⟩
theorem uf(i:Int)(t:Tok):dS (.inl i) (.int i t)=true:=by simp[dS,Value.isInt]
theorem uh(x:Str)(t:Tok):dS (.inr x) (.str x t)=true:=by simp[dS,Value.isStrOf]
theorem ui(a b:Int):decide ((Sum.inl a:Key)=Sum.inl b)=(a==b):=by
 by_cases e:a=b
 ·subst e;simp
 ·have h:¬ (Sum.inl a:Key)=Sum.inl b:=λq=>e (Sum.inl.inj q)
  rw[decide_eq_false h]
  exact(beq_eq_false_iff_ne.mpr e).symm
theorem uj(a b:Str):decide ((Sum.inr a:Key)=Sum.inr b)=decide (a=b):=by
 by_cases e:a=b
 ·subst e;simp
 ·have h:¬ (Sum.inr a:Key)=Sum.inr b:=λq=>e (Sum.inr.inj q)
  rw[decide_eq_false h,decide_eq_false e]
theorem uk(a:Int)(b:Str):decide ((Sum.inl a:Key)=Sum.inr b)=false:=decide_eq_false (λq=>nomatch q)
theorem ul(a:Str)(b:Int):decide ((Sum.inr a:Key)=Sum.inl b)=false:=decide_eq_false (λq=>nomatch q)
def bC(prog:Program)(w:World):PySem.KeyKind prog w Key where
 is:=dS
 hash:=keyH w
 inj:=λv a b ha hb=>by
  rcases keyIs_shape ha with⟨i,t,rfl,rfl⟩|⟨x,t,rfl,rfl⟩
  ·rcases keyIs_shape hb with⟨j,u,rfl,e⟩|⟨y,u,rfl,e⟩
   ·injection e with e1 _;rw[e1]
   ·exact nomatch e
  ·rcases keyIs_shape hb with⟨j,u,rfl,e⟩|⟨y,u,rfl,e⟩
   ·exact nomatch e
   ·injection e with e1 _;rw[e1]
 byValue:=λk v h=>by
  rcases keyIs_shape h with⟨i,t,rfl,rfl⟩|⟨x,t,rfl,rfl⟩<;>rfl
 pyHash:=λhv h=>by
  rcases keyIs_shape hv with⟨i,t,rfl,rfl⟩|⟨x,t,rfl,rfl⟩
  ·exact wpAny_pyHash_int h
  ·exact wpAny_pyHash_str h
 eqBool:=λhu hv h=>by
  rcases keyIs_shape hu with⟨i,t,rfl,rfl⟩|⟨x,t,rfl,rfl⟩
  ·rcases keyIs_shape hv with⟨j,u,rfl,rfl⟩|⟨y,u,rfl,rfl⟩
   ·rw[ui] at h;exact wpAny_eqBool_int h
   ·rw[uk] at h;exact SeqAt.EqAt.int_str i t y u _ _ _ _ h
  ·rcases keyIs_shape hv with⟨j,u,rfl,rfl⟩|⟨y,u,rfl,rfl⟩
   ·rw[ul] at h;exact SeqAt.EqAt.str_int x t j u _ _ _ _ h
   ·rw[uj] at h;exact wpAny_eqBool_str h
 «strs»:=λk x t v h=>by
  rcases keyIs_shape h with⟨i,u,rfl,e⟩|⟨y,u,rfl,e⟩
  ·exact nomatch e
  ·injection e with e1 _
   subst e1
   cases v<;>rfl
theorem mixKind_int(prog:Program)(w:World)(i:Int)(t:Tok):(bC prog w).is (.inl i) (.int i t)=true:=uf i t
theorem um(prog:Program)(w:World)(x:Str)(t:Tok):(bC prog w).is (.inr x) (.str x t)=true:=uh x t
inductive V where
 |non|bl (b:Bool)|int (i:Int)|str (x:Str)|byt (b:Array UInt8)|flt (b:UInt64)|ref (a:Addr)|ty (n:String)
 deriving DecidableEq
def RelV:V->Value->Prop
 | .non,u=>u=Value.none
 | .bl b,u=>u=Value.bool b
 | .int i,u=>∃ t,u=Value.int i t
 | .str x,u=>∃ t,u=Value.str x t
 | .byt b,u=>∃ t,u=Value.bytes b t
 | .flt b,u=>∃ t,u=Value.float b t
 | .ref a,u=>u=Value.ref a
 | .ty n,u=>u=Value.type n
abbrev Vals:List V->List Value->Prop:=Paired RelV
theorem Vals.length{xs:List V}{us:List Value}(r:Vals xs us):xs.length=us.length:=Paired.length r
theorem Vals.get:∀ {xs:List V} {us:List Value} {i:Nat} {x:V},Vals xs us->xs[i]?=some x->∃ u,us[i]?=some u/\RelV x u
 |_,_,_,_,.nil,e=>by simp at e
 |_,_,0,_,.cons r _,e=>by simp at e;subst e;exact⟨_,rfl,r⟩
 |_,_,i+1,x,.cons _ t,e=>by
  obtain⟨u,h1,h2⟩:=Vals.get (i:=i) (x:=x) t (by simpa using e)
  exact⟨u,by simpa using h1,h2⟩
theorem Vals.set{x:V}{u:Value}(r:RelV x u):∀ {xs:List V} {us:List Value} (i:Nat),Vals xs us->Vals (xs.set i x) (us.set i u)
 |_,_,_,.nil=> .nil
 |_,_,0,.cons _ t=> .cons r t
 |_,_,i+1,.cons q t=> .cons q (Vals.set r i t)
theorem Vals.append:∀ {xs ys:List V} {us ws:List Value},Vals xs us->Vals ys ws->Vals (xs++ys) (us++ws)
 |_,_,_,_,.nil,s=>s
 |_,_,_,_,.cons r t,s=> .cons r (Vals.append t s)
theorem Vals.take:∀ {xs:List V} {us:List Value} (n:Nat),Vals xs us->Vals (xs.take n) (us.take n)
 |_,_,0,_=> .nil
 |_,_,_+1,.nil=> .nil
 |_,_,n+1,.cons r t=> .cons r (Vals.take n t)
theorem Vals.drop:∀ {xs:List V} {us:List Value} (n:Nat),Vals xs us->Vals (xs.drop n) (us.drop n)
 |_,_,0,r=>r
 |_,_,_+1,.nil=> .nil
 |_,_,n+1,.cons _ t=>Vals.drop n t
def RelO:Option V->Option Value->Prop
 |some v,some u=>RelV v u
 |none,none=>True
 |_,_=>False
def KV{κ:Type}:List (κ × V)->List (κ × Value)->Prop:=Paired λ(p:κ × V) (q:κ × Value)=>p.1=q.1/\RelV p.2 q.2
def kV:Key->V
 | .inl i=> .int i
 | .inr x=> .str x
inductive HO where
  |lst (xs:List V)
  |tup (xs:List V)
  |dK (a8:List (Key × V))|dT (a8:List (List Key × V))
  |set (S:Int->Bool) (n:Nat)
  |ins (C dx:Addr) (fs:List (Str × V))
  |own (x:Addr)
  |xd (fs:List (Str × V))
  |met (f x:Addr)
  |rng (lo hi:Int)
  |frz (o:Obj) (u:HO)
  |tbl (ps:Array Value)
  |ext (φ:Heap->Prop)
abbrev Hp:=Addr->Option HO
def upd(H:Hp)(a:Addr)(o:HO):Hp:=λb=>if b=a then some o else H b
theorem az{H:Hp}{a:Addr}{o:HO}:upd H a o a=some o:=by unfold upd;rw[if_pos rfl]
theorem ao{H:Hp}{a b:Addr}{o:HO}(h:b≠a):upd H a o b=H b:=by unfold upd;rw[if_neg h]
theorem uo{H:Hp}{a b:Addr}{o u:HO}(h:H a=some o)(h':H b=some u)(d:o≠u):a≠b:=by
 intro e;subst e;rw[h] at h';exact d (Option.some.inj h')
theorem bK{H:Hp}{a b:Addr}{o:HO}(h:H a=some o)(h':H b=none):a≠b:=by
 intro e;subst e;rw[h] at h';cases h'
section
variable (P:Program)(w:World)
def ObjOk(H:Hp)(h:Heap)(a:Addr):HO->Prop
 | .lst xs=>xs.length<=sizeLine/\∃ (its:List Value) (n:Nat),Vals xs its/\h.get? a=some {cls:= .type "list",data:= .seq its.toArray n}
 | .tup xs=>xs.length<=sizeLine/\∃ its:List Value,Vals xs its/\IsTup h a its.toArray
 | .dK a8=>a8.length<=sizeLine/\(a==sysModules)=false/\∃ vs,KV a8 vs/\h.DictOf (bC P w) a vs
 | .dT a8=>a8.length<=sizeLine/\(a==sysModules)=false/\∃ xs:List (List Key × Addr × Value),
   Paired (λ(p:List Key × V) (q:List Key × Addr × Value)=>p.1=q.1/\H q.2.1=some (.tup (p.1.map kV))/\RelV p.2 q.2.2) a8 xs/\
   ∃ o es ep,h.get? a=some o/\o.ExactDict/\o.data= .dict es ep/\es.toList=xs.map (entryOfKey (tupleKind (bC P w)))/\(xs.map (·.1)).Nodup
 | .set S n=>h.SetOf (intKind P w) a S n
 | .ins C dx fs=>H dx=some (.own a)/\fs.length<=1000/\dx≠a/\h.get? a=some (instObj C dx)/\
   ∃ mA,h.Ns1 dx mA/\(∀ f,RelO (fs.lookup f) (mA f))/\PySem.Within mA (fs.map (·.1))
 | .own _=>∃ o,h.get? a=some o
 | .xd fs=>∃ mA,h.Ns1 a mA/\∀ f,RelO (fs.lookup f) (mA f)
 | .rng lo hi=>∃ t u v,h.get? a=some {cls:= .type "range",data:= .fields #[.int lo t,.int hi u,.int 1 v]}
 | .frz o u=>h.get? a=some o/\ObjOk H h a u
 | .tbl ps=>h.get? a=some {cls:= .none,data:= .fields ps}
 | .met f x=>h.get? a=some (methodObj (.ref f) (.ref x))
 | .ext φ=>φ h/\(∃ o,h.get? a=some o)/\∀ h1 h2:Heap,φ h1->(∀ o,h1.get? a=some o->h2.get? a=some o)->φ h2
def HOk(H:Hp)(h:Heap):Prop:=∀ a o,H a=some o->ObjOk P w H h a o
end
section
variable {P:Program}{w:World}{H H':Hp}{h h':Heap}{a:Addr}{o:HO}
theorem ObjOk.lt(x:ObjOk P w H h a o):a<h.objs.size:=by
 cases o with
 |lst xs=>obtain⟨_,_,_,_,e⟩:=x;exact Heap.lt_size e
 |tup xs=>obtain⟨_,_,_,p⟩:=x;exact p.lt
 |dK a8=>obtain⟨_,_,_,_,o,_,_,e,_⟩:=x;exact Heap.lt_size e
 |dT a8=>obtain⟨_,_,_,_,o,_,_,e,_⟩:=x;exact Heap.lt_size e
 |set S n=>obtain⟨o,_,_,_,e,_⟩:=x;exact Heap.lt_size e
 |ins C dx fs=>obtain⟨_,_,_,e,_⟩:=x;exact Heap.lt_size e
 |own y=>obtain⟨_,e⟩:=x;exact Heap.lt_size e
 |xd fs=>obtain⟨_,⟨_,_,_,e,_⟩,_⟩:=x;exact Heap.lt_size e
 |rng lo hi=>obtain⟨_,_,_,e⟩:=x;exact Heap.lt_size e
 |frz ob u=>obtain⟨e,_⟩:=x;exact Heap.lt_size e
 |tbl ps=>exact Heap.lt_size (show h.get? a=some _ from x)
 |met f y=>exact Heap.lt_size (show h.get? a=some _ from x)
 |ext φ=>obtain⟨_,⟨_,e⟩,_⟩:=x;exact Heap.lt_size e
theorem Paired.mapP{α β:Type}{F G:α->β->Prop}:∀ {l₁:List α} {l₂:List β},Paired F l₁ l₂->(∀ a b,F a b->G a b)->Paired G l₁ l₂
 |_,_,.nil,_=> .nil
 |_,_,.cons r t,f=> .cons (f _ _ r) (Paired.mapP t f)
theorem ObjOk.stay(x:ObjOk P w H h a o)(k:∀ b u,(b=a\/H b=some (.own a))->h.get? b=some u->h'.get? b=some u)
  (ho:∀ b,H b=some (.own a)->H' b=some (.own a)) (ht:∀ b xs,H b=some (.tup xs)->H' b=some (.tup xs)):ObjOk P w H' h' a o:=by
 induction o with
 |lst xs=>obtain⟨z,its,n,r,e⟩:=x;exact⟨z,its,n,r,k _ _ (.inl rfl) e⟩
 |tup xs=>obtain⟨z,its,r,ob,e,c⟩:=x;exact⟨z,its,r,ob,k _ _ (.inl rfl) e,c⟩
 |dK a8=>obtain⟨z,y,vs,r,ob,es,ep,e,c⟩:=x;exact⟨z,y,vs,r,ob,es,ep,k _ _ (.inl rfl) e,c⟩
 |dT a8=>
  obtain⟨z,y,xs,r,ob,es,ep,e,c⟩:=x
  exact⟨z,y,xs,Paired.mapP r λp q z=>⟨z.1,ht _ _ z.2.1,z.2.2⟩,ob,es,ep,k _ _ (.inl rfl) e,c⟩
 |set S n=>obtain⟨ob,es,ep,t,e,c⟩:=x;exact⟨ob,es,ep,t,k _ _ (.inl rfl) e,c⟩
 |ins C dx fs=>
  obtain⟨d,z,ne,e,mA,⟨od,es,ep,e2,c⟩,r⟩:=x
  exact⟨ho _ d,z,ne,k _ _ (.inl rfl) e,mA,⟨od,es,ep,k _ _ (.inr d) e2,c⟩,r⟩
 |own y=>obtain⟨ob,e⟩:=x;exact⟨ob,k _ _ (.inl rfl) e⟩
 |xd fs=>obtain⟨mA,⟨od,es,ep,e,c⟩,r⟩:=x;exact⟨mA,⟨od,es,ep,k _ _ (.inl rfl) e,c⟩,r⟩
 |rng lo hi=>obtain⟨t,u,v,e⟩:=x;exact⟨t,u,v,k _ _ (.inl rfl) e⟩
 |frz ob u ih=>obtain⟨e,q⟩:=x;exact⟨k _ _ (.inl rfl) e,ih q⟩
 |tbl ps=>
  have e:h.get? a=some {cls:= .none,data:= .fields ps}:=x
  show h'.get? a=some {cls:= .none,data:= .fields ps}
  exact k a _ (.inl rfl) e
 |met f y=>
  have e:h.get? a=some (methodObj (.ref f) (.ref y)):=x
  show h'.get? a=some (methodObj (.ref f) (.ref y))
  exact k a _ (.inl rfl) e
 |ext φ=>obtain⟨p,⟨o,e⟩,st⟩:=x;exact⟨st _ _ p λo q=>k _ _ (.inl rfl) q,⟨o,k _ _ (.inl rfl) e⟩,st⟩
theorem HOk.lt(x:HOk P w H h)(e:H a=some o):a<h.objs.size:=(x a o e).lt
theorem HOk.fresh(x:HOk P w H h)(e:h.objs.size<=a):H a=none:=by
 cases q:H a with
 |none=>rfl
 |some u=>exact absurd (Fo (x.lt q) e) (FR _)
theorem HOk.kept(x:HOk P w H h)(k:∀ b u,h.get? b=some u->h'.get? b=some u):HOk P w H h':=λa o e=>
 (x a o e).stay (λb u _ q=>k b u q) (λ_ q=>q) λ_ _ q=>q
theorem HOk.laid(x:HOk P w H h)(k:∀ b u,h.get? b=some u->h'.get? b=some u)(hp:h.objs.size<=a)(new:ObjOk P w (upd H a o) h' a o):HOk P w (upd H a o) h':=λb u e=>by
 have hn:=x.fresh hp
 by_cases hb:b=a
 ·subst hb;rw[az] at e;cases e;exact new
 ·rw[ao hb] at e
  exact(x b u e).stay (λc v _ q=>k c v q) (λc q=>by rw[ao (bK q hn)];exact q) λc xs q=>by rw[ao (bK q hn)];exact q
end
def Rd(H:Hp)(a:Addr)(u:HO):Prop:=H a=some u\/∃ o,H a=some (.frz o u)
theorem Rd.of{H:Hp}{a:Addr}{u:HO}(h:H a=some u):Rd H a u:= .inl h
theorem Rd.ok{P:Program}{w:World}{H:Hp}{h:Heap}{a:Addr}{u:HO}(r:Rd H a u)(x:HOk P w H h):ObjOk P w H h a u:=by
 rcases r with r|⟨o,r⟩
 ·exact x a u r
 ·obtain⟨_,q⟩:=x a _ r
  exact q
def Mut:Option HO->Prop
 |some (.lst _)=>True
 |some (.dK _)=>True
 |some (.dT _)=>True
 |some (.set _ _)=>True
 |some (.ins _ _ _)=>True
 |some (.ext _)=>True
 |_=>False
section
variable {P:Program}{w:World}{H:Hp}{h h':Heap}{x e:Addr}{o':HO}
theorem HOk.write(ok:HOk P w H h)(mu:Mut (H x))(he:e=x\/H e=some (.own x))(k:∀ b u,b≠e->h.get? b=some u->h'.get? b=some u)(x_:∃ u,h'.get? e=some u)
  (new:ObjOk P w (upd H x o') h' x o'):HOk P w (upd H x o') h':=λb u q=>by
 have JO:∀ c y,H c=some (.own y)->c≠x:=λc y r z=>by subst z;rw[r] at mu;exact mu
 have Lq:∀ c xs,H c=some (.tup xs)->c≠x:=λc xs r z=>by subst z;rw[r] at mu;exact mu
 by_cases hb:b=x
 ·subst hb;rw[az] at q;cases q;exact new
 ·rw[ao hb] at q
  by_cases IJ:b=e
  ·have q':H b=some (.own x):=by
    rcases he with z|z
    ·exact absurd (IJ.trans z) hb
    ·rw[IJ];exact z
   rw[q] at q';cases q'
   obtain⟨v,hv⟩:=x_
   exact⟨v,by rw[IJ];exact hv⟩
  ·refine(ok b u q).stay (λc v hc r=>k c v ?_ r) (λc r=>by rw[ao (JO c b r)];exact r) λc xs r=>by rw[ao (Lq c xs r)];exact r
   rcases hc with rfl|hc
   ·exact IJ
   ·rintro rfl
    rcases he with z|z
    ·exact JO c b hc z
    ·rw[hc] at z;cases z;exact hb rfl
end
structure Un(fs ex:List Addr)(H H':Hp)(h h':Heap):Prop where
 keep:∀ b o,h.get? b=some o->H b=none->b ∉ fs->b ∉ ex->h'.get? b=some o
 slot:∀ b o,h.get? b=some o->H b=none->b∈fs->b ∉ ex->∃ sl,h'.get? b=some {o with slots:=sl}
 free:∀ b o,h.get? b=some o->H b=none->b ∉ ex->H' b=none
 there:∀ b o,h.get? b=some o->b ∉ ex->∃ o',h'.get? b=some o'
 tups:∀ b xs,H b=some (.tup xs)->H' b=some (.tup xs)
 frzs:∀ b o u,H b=some (.frz o u)->H' b=some (.frz o u)
 tbls:∀ b ps,H b=some (.tbl ps)->∃ more,H' b=some (.tbl (ps++more))
section
variable {fs p6 ex JP:List Addr}{H H1 H2:Hp}{h h1 h2 h':Heap}{a x e:Addr}{o:HO}
theorem Un.any(u:Un fs ex H H1 h h1){b:Addr}{ob:Obj}(q:h.get? b=some ob)(n:H b=none)(hx:b ∉ ex):∃ sl,h1.get? b=some {ob with slots:=sl}:=by
 by_cases hb:b∈fs
 ·exact u.slot b ob q n hb hx
 ·exact⟨ob.slots,u.keep b ob q n hb hx⟩
theorem Un.trans(a:Un fs ex H H1 h h1)(b:Un fs ex H1 H2 h1 h2):Un fs ex H H2 h h2 where
 keep:=λc ob q n hc hx=>b.keep c ob (a.keep c ob q n hc hx) (a.free c ob q n hx) hc hx
 slot:=λc ob q n hc hx=>by
  obtain⟨sl,e1⟩:=a.slot c ob q n hc hx
  obtain⟨u8,e2⟩:=b.slot c _ e1 (a.free c ob q n hx) hc hx
  exact⟨u8,e2⟩
 free:=λc ob q n hx=>by
  obtain⟨o',e1⟩:=a.there c ob q hx
  exact b.free c o' e1 (a.free c ob q n hx) hx
 there:=λc ob q hx=>by
  obtain⟨o',e1⟩:=a.there c ob q hx
  exact b.there c o' e1 hx
 tups:=λc xs q=>b.tups c xs (a.tups c xs q)
 frzs:=λc ob xs q=>b.frzs c ob xs (a.frzs c ob xs q)
 tbls:=λc ps q=>by
  obtain⟨m1,e1⟩:=a.tbls c ps q
  obtain⟨m2,e2⟩:=b.tbls c _ e1
  exact⟨m1++m2,by rw[e2,Hn]⟩
theorem Un.kept(k:∀ b u,h.get? b=some u->h'.get? b=some u):Un fs ex H H h h':=
 ⟨λb ob q _ _ _=>k b ob q,λb ob q _ _ _=>⟨ob.slots,k b ob q⟩,λ_ _ _ n _=>n,λb ob q _=>⟨ob,k b ob q⟩,λ_ _ q=>q,λ_ _ _ q=>q,λ_ ps q=>⟨#[],by rw[q];simp⟩⟩
theorem Un.refl:Un fs ex H H h h:=Un.kept λ_ _ q=>q
theorem Un.laid(k:∀ b u,h.get? b=some u->h'.get? b=some u)(hp:h.objs.size<=a)(hn:H a=none):Un fs ex H (upd H a o) h h' where
 keep:=λb u q _ _ _=>k b u q
 slot:=λb u q _ _ _=>⟨u.slots,k b u q⟩
 free:=λb u q n _=>by rw[ao (E3 (Fo (Heap.lt_size q) hp))];exact n
 there:=λb u q _=>⟨u,k b u q⟩
 tups:=λb xs q=>by rw[ao (bK q hn)];exact q
 frzs:=λb u xs q=>by rw[ao (bK q hn)];exact q
 tbls:=λb ps q=>⟨#[],by rw[ao (bK q hn),q];simp⟩
theorem Un.write(mu:Mut (H x))(he:e=x\/H e=some (.own x))(k:∀ b u,b≠e->h.get? b=some u->h'.get? b=some u)(x_:∃ u,h'.get? e=some u):Un fs ex H (upd H x o) h h':=by
 have hx:∀ b,H b=none->b≠x:=λb n z=>by subst z;rw[n] at mu;exact mu
 have hb:∀ b,H b=none->b≠e:=λb n z=>by
  subst z
  rcases he with r|r
  ·exact hx b n r
  ·rw[n] at r;cases r
 have hm:∀ b u,H b=some u->¬ Mut (some u)->b≠x:=λb u q nm z=>by subst z;rw[q] at mu;exact nm mu
 refine⟨λb u q n _ _=>k b u (hb b n) q,λb u q n _ _=>⟨u.slots,k b u (hb b n) q⟩,λb u q n _=>by rw[ao (hx b n)];exact n,λb u q _=>?_,
  λb xs q=>by rw[ao (hm b _ q λz=>z)];exact q,λb u xs q=>by rw[ao (hm b _ q λz=>z)];exact q,λb ps q=>⟨#[],by rw[ao (hm b _ q λz=>z),q];simp⟩⟩
 by_cases IJ:b=e
 ·subst IJ;exact x_
 ·exact⟨u,k b u IJ q⟩
end
def trk(h:Heap)(H:Hp):List Addr:=(ET h.objs.size).filter λa=>(H a).isSome
def hidT(h:Heap)(H:Hp):Heap:=hideAll h (trk h H)
theorem uq(h:Heap)(H:Hp):(hidT h H).objs.size=h.objs.size:=hideAll_size _ _
theorem ut{h:Heap}{H:Hp}{b:Addr}{o:Obj}(e:h.get? b=some o)(n:H b=none):(hidT h H).get? b=some o:=
 hideAll_get _ e λhm=>by
  have q:(H b).isSome=true:=(Ho.mp hm).2
  rw[n] at q;simp at q
theorem uu{h:Heap}{H:Hp}{b:Addr}{o:Obj}(e:(hidT h H).get? b=some o):h.get? b=some o/\H b=none:=by
 have e':h.get? b=some o:=of_hideAll (trk h H) e
 refine⟨e',?_⟩
 cases q:H b with
 |none=>rfl
 |some x=>
  have hm:b∈trk h H:=Ho.mpr ⟨List.mem_range.mpr (Heap.lt_size e'),by simp[q]⟩
  have z:(hidT h H).get? b=none:=hideAll_none (trk h H) hm
  rw[z] at e;cases e
def allNews(g h:Heap)(L:Addr):List (Addr × Obj):=(ET h.objs.size).filterMap λa=>if a=L\/(g.get? a).isSome=true then none else(h.get? a).map λo=>(a,o)
def rest(g h:Heap)(L d:Addr):List (Addr × Obj):=(allNews g h L).filter λp=>decide (p.1≠d)
structure Mod(K:Ex)(mg:Str->Option Value)(base:Heap):Prop where
 kin:K.In base
 glob:base.Ns mainGlobals mg
 blt:∃ mb,base.Ns builtinsNs mb/\∀ x:Str,x≠"__name__"->mb x=bootBuiltins x
 nolimit:base.NoLimit
structure Cx where
 prog:Program
 w:World
 K:Ex
 mg:Str->Option Value
 base:Heap
 A:Around
 N:List Str
 s₀:Shared
 H₀:Hp
 env:Env
 outer:List Env
 stack:List Env
 ex:List Addr
 fn:Str->Bool
 calm:Bool
 pn:List (Addr × Obj)
 xe:Value->Shared->Prop
abbrev zSE(X:Cx)(e:Expr)(es:List Expr):Prop:=starEach (e::es) X.env=(false,eval e X.env)::starEach es X.env
abbrev zPL(X:Cx)(p:Pos)(es:List Expr):Prop:=(backTo p (starEach es X.env)).any (·.1)=false
abbrev zHF(X:Cx)(p:Pos)(es:List Expr):Prop:=((backTo p (starEach es X.env)).all (λx=>!x.1) && (backToKw p (keywordEach [] X.env)).all (λx=>x.1.isSome) && decide (es.length+([]:List Keyword).length+(if([]:List Keyword).isEmpty then 0 else 1)<30))=true
abbrev zFN(X:Cx)(x:Str):Prop:=X.fn x=true\/X.env.scope.names.lookup x=some .local
abbrev zND(x:Str):Prop:=(x==("__debug__":Str))=false
abbrev zNC(x:Str):Prop:=(x==("__classdict__":Str))=false
abbrev zFS(X:Cx)(e:Expr)(y:Value):Prop:=foldedSetIterable e X.env y=pure y
def frs(l:List Env):List Addr:=l.filterMap (·.frame)
abbrev Cx.fs(X:Cx):List Addr:=frs X.outer
def Vis(sc:Scope)(x:Str):Prop:=sc.names.lookup x=some .local\/sc.names.lookup x=some .cell\/sc.names.lookup x=some .free
def Loc(sc:Scope)(x:Str):Prop:=sc.names.lookup x=some .local\/sc.names.lookup x=some .cell
def Look(env:Env)(h:Heap)(m:Str->Option Value)(x:Str)(u:Value):Prop:=
 (env.kindOf x=some .local/\m x=some u)\/((env.kindOf x=some .cell\/env.kindOf x=some .free)/\∃ c,env.cells.lookup x=some c/\h.IsCell c (some u))
structure Cx.Ok(X:Cx):Prop where
 mod:Mod X.K X.mg X.base
 kind:X.env.scope.kind= .function
 glob:X.env.globals=mainGlobals
 blt:X.env.builtins=builtinsNs
 above:X.s₀.heap.objs.size<=X.env.locals
 inj:∀ x y c,X.env.cells.lookup x=some c->X.env.cells.lookup y=some c->x=y
 has:∀ x,(X.env.kindOf x=some .cell\/X.env.kindOf x=some .free)->∃ c,X.env.cells.lookup x=some c
 cab:∀ x c,X.fn x=true->X.env.cells.lookup x=some c->X.s₀.heap.objs.size<=c
 hd:X.calm=true->X.A.handled=none
 frames:X.A.frames=some X.stack
 stk:X.stack=X.outer\/(X.stack=X.env::X.outer/\X.env.frame=some X.env.locals)
 exf:∀ b∈X.ex,b≠X.env.locals/\∀ x c,X.env.cells.lookup x=some c->c≠b
 bs:∀ b o,X.base.get? b=some o->X.s₀.heap.get? b=some o/\X.H₀ b=none
 bsz:X.base.objs.size<=X.s₀.heap.objs.size
 noex:∀ b o,X.base.get? b=some o->b ∉ X.ex
 exfs:∀ b∈X.ex,b ∉ X.fs
 funs:X.s₀.heap.FunFrames X.base X.outer
 frf:∀ b∈X.fs,X.H₀ b=none
structure Inv(X:Cx)(pins:List (Addr × Obj))(σ:List (Option V))(H:Hp)(s:Shared):Prop where
 ok:X.Ok
 os:s.os=X.s₀.os
 bare:AllBare s.gens
 base:Un X.fs X.ex X.H₀ H X.s₀.heap s.heap
 loc:∃ m,s.heap.Ns X.env.locals m/\∀ (i:Nat) (x:Str) (v:V),X.N[i]?=some x->σ[i]?=some (some v)->Vis X.env.scope x->∃ u,RelV v u/\Look X.env s.heap m x u
 cell:∀ x c,X.env.cells.lookup x=some c->∃ v,s.heap.IsCell c v
 free:H X.env.locals=none
 freeC:∀ x c,X.env.cells.lookup x=some c->H c=none
 pin:∀ p∈X.pn++pins,s.heap.get? p.1=some p.2/\H p.1=none/\p.1≠X.env.locals/\p.1 ∉ X.fs/\∀ v,p.2.data≠.cell v
 hok:HOk X.prog X.w H s.heap
 len:σ.length=X.N.length
section
variable {X:Cx}{pins:List (Addr × Obj)}{σ:List (Option V)}{H H':Hp}{s:Shared}{h':Heap}
theorem Cx.Ok.nofr(ok:X.Ok){b:Addr}{o:Obj}(e:X.base.get? b=some o):b ∉ X.fs:=λhb=>by
 have:=(ok.funs.mem hb).1
 rw[e] at this;cases this
theorem Inv.bs(I:Inv X pins σ H s):∀ b o,X.base.get? b=some o->s.heap.get? b=some o/\H b=none:=λb o e=>
 ⟨I.base.keep b o (I.ok.bs b o e).1 (I.ok.bs b o e).2 (I.ok.nofr e) (I.ok.noex b o e),I.base.free b o (I.ok.bs b o e).1 (I.ok.bs b o e).2 (I.ok.noex b o e)⟩
theorem Inv.bk(I:Inv X pins σ H s):∀ b o,X.base.get? b=some o->s.heap.get? b=some o:=λb o e=>(I.bs b o e).1
theorem Inv.mod(I:Inv X pins σ H s):Mod X.K X.mg X.base:=I.ok.mod
theorem Inv.kIn(I:Inv X pins σ H s):X.K.In s.heap:=I.ok.mod.kin.keeps I.bk
theorem Inv.nolimit(I:Inv X pins σ H s):s.heap.NoLimit:=I.ok.mod.nolimit.keeps I.bk
theorem Inv.fr(I:Inv X pins σ H s):∃ m,Fr X.base X.env.locals s.heap m:=
 let ⟨m,hn,_⟩:=I.loc
 ⟨m,hn,I.bk,E4 I.ok.bsz I.ok.above⟩
theorem Inv.lt(I:Inv X pins σ H s):X.env.locals<s.heap.objs.size:=let ⟨_,hn,_⟩:=I.loc;hn.lt
theorem Inv.sz(I:Inv X pins σ H s):X.s₀.heap.objs.size<=s.heap.objs.size:=E4 I.ok.above (Gw I.lt)
theorem Inv.nofs(I:Inv X pins σ H s){a:Addr}(h:s.heap.objs.size<=a):a ∉ X.fs:=λhb=>by
 obtain⟨_,o,ho,_⟩:=I.ok.funs.mem hb
 exact absurd (Fo (Heap.lt_size ho) (E4 I.sz h)) (FR _)
theorem Inv.cne(I:Inv X pins σ H s):∀ x c,X.env.cells.lookup x=some c->c≠X.env.locals:=λx c e z=>by
 obtain⟨v,o,ho,hd⟩:=I.cell x c e
 obtain⟨m,⟨o',es,ep,u9,f9,_⟩,_⟩:=I.loc
 rw[z,u9] at ho;cases ho;rw[f9] at hd;cases hd
theorem Inv.funs(I:Inv X pins σ H s):s.heap.FunFrames X.base X.outer:=by
 have all:∀ (l:List Env),(∀ b∈frs l,b∈X.fs)->X.s₀.heap.FunFrames X.base l->s.heap.FunFrames X.base l:=by
  intro l
  induction l with
  |nil=>intro _ _;trivial
  |cons env r ih=>
   intro hs hl
   obtain⟨hk,⟨L,o,hf,hn,ho,hd⟩,hr⟩:=hl
   have hL:L∈X.fs:=hs L (by unfold frs;rw[Gx,hf];exact EY)
   obtain⟨sl,e⟩:=I.base.slot L o ho (I.ok.frf L hL) hL λz=>I.ok.exfs L z hL
   exact⟨hk,⟨L,_,hf,hn,e,hd⟩,ih (λb hb=>hs b (by unfold frs;rw[Gx,hf];exact EV _ hb)) hr⟩
 exact all X.outer (λ_ hb=>hb) I.ok.funs
theorem Inv.stack(I:Inv X pins σ H s):s.heap.FunFrames X.base X.stack:=by
 rcases I.ok.stk with e|⟨e,hf⟩
 ·rw[e];exact I.funs
 ·rw[e]
  obtain⟨m,hn,_⟩:=I.loc
  refine .cons (by rw[I.ok.kind];decide) hf hn ?_ I.funs
  exact Heap.get?_none_of_le (E4 I.ok.bsz I.ok.above)
theorem Inv.stkSub(I:Inv X pins σ H s):∀ b∈frs X.stack,b∈X.env.locals::X.fs:=λb hb=>by
 rcases I.ok.stk with e|⟨e,hf⟩
 ·rw[e] at hb;exact EV _ hb
 ·rw[e] at hb
  unfold frs at hb
  rw[Gx,hf] at hb
  exact hb
theorem Inv.stkFree(I:Inv X pins σ H s):∀ b∈frs X.stack,H b=none:=λb hb=>by
 rcases EU.mp (I.stkSub b hb) with e|hb
 ·rw[e];exact I.free
 ·obtain⟨_,o,ho,_⟩:=I.ok.funs.mem hb
  exact I.base.free b o ho (I.ok.frf b hb) λz=>I.ok.exfs b z hb
theorem Inv.step{g':Array GenState}{t':Nat}{d':Drawn}{ch:List Addr}(I:Inv X pins σ H s)
  (y7:∀ b∈ch,(b∈X.ex\/X.s₀.heap.objs.size<=b)/\b≠X.env.locals/\(∀ x c,X.env.cells.lookup x=some c->c≠b)/\∀ p∈X.pn++pins,p.1≠b)
  (keep:∀ b o,b≠X.env.locals->b ∉ X.fs->b ∉ ch->s.heap.get? b=some o->H b=none->h'.get? b=some o)
  (slot:∀ b o,b≠X.env.locals->b∈X.fs->b ∉ ch->s.heap.get? b=some o->H b=none->∃ sl,h'.get? b=some {o with slots:=sl}) (free:∀ b o,b ∉ ch->s.heap.get? b=some o->H b=none->H' b=none)
  (there:∀ b o,b ∉ ch->s.heap.get? b=some o->∃ o',h'.get? b=some o')
  (tups:∀ b xs,H b=some (.tup xs)->H' b=some (.tup xs)) (frzs:∀ b o u,H b=some (.frz o u)->H' b=some (.frz o u)) (tbls:∀ b ps,H b=some (.tbl ps)->∃ more,H' b=some (.tbl (ps++more)))
  (ns:∀ m,s.heap.Ns X.env.locals m->h'.Ns X.env.locals m) (hok:HOk X.prog X.w H' h') (hg:AllBare g'):
  Inv X pins σ H' {s with heap:=h',gens:=g',drawn:=d',toks:=t'}:=by
 have NA:∀ b o,X.s₀.heap.get? b=some o->b≠X.env.locals:=λb o e=>E3 (Fo (Heap.lt_size e) I.ok.above)
 have KS:∀ b o,X.s₀.heap.get? b=some o->b ∉ X.ex->b ∉ ch:=λb o e hx hb=>by
  rcases(y7 b hb).1 with z|z
  ·exact hx z
  ·exact absurd (Fo (Heap.lt_size e) z) (FR _)
 have Iv:∀ x c,X.env.cells.lookup x=some c->∀ v,s.heap.IsCell c v->h'.IsCell c v:=λx c e v ⟨o,ho,hd⟩=>by
  have JQ:c ∉ ch:=λz=>(y7 c z).2.2.1 x c e rfl
  by_cases hc:c∈X.fs
  ·obtain⟨sl,q⟩:=slot c o (I.cne x c e) hc JQ ho (I.freeC x c e)
   exact⟨_,q,hd⟩
  ·exact⟨o,keep c o (I.cne x c e) hc JQ ho (I.freeC x c e),hd⟩
 refine⟨I.ok,I.os,hg,⟨λb o e n hb hx=>?_,λb o e n hb hx=>?_,λb o e n hx=>?_,λb o e hx=>?_,λb xs e=>tups b xs (I.base.tups b xs e),λb o xs e=>frzs b o xs (I.base.frzs b o xs e),λb ps e=>?_⟩,?_,λx c e=>?_,?_,λx c e=>?_,λp hp=>?_,hok,I.len⟩
 ·exact keep b o (NA b o e) hb (KS b o e hx) (I.base.keep b o e n hb hx) (I.base.free b o e n hx)
 ·obtain⟨sl,e1⟩:=I.base.slot b o e n hb hx
  obtain⟨u8,e2⟩:=slot b _ (NA b o e) hb (KS b o e hx) e1 (I.base.free b o e n hx)
  exact⟨u8,e2⟩
 ·obtain⟨o',e1⟩:=I.base.there b o e hx
  exact free b o' (KS b o e hx) e1 (I.base.free b o e n hx)
 ·obtain⟨o',e1⟩:=I.base.there b o e hx
  exact there b o' (KS b o e hx) e1
 ·obtain⟨m1,e1⟩:=I.base.tbls b ps e
  obtain⟨m2,e2⟩:=tbls b _ e1
  exact⟨m1++m2,by rw[e2,Hn]⟩
 ·obtain⟨m,hn,hl⟩:=I.loc
  refine⟨m,ns m hn,λi x v e1 e2 e3=>?_⟩
  obtain⟨u,r,l⟩:=hl i x v e1 e2 e3
  refine⟨u,r,?_⟩
  rcases l with l|⟨k,c,e,z⟩
  ·exact .inl l
  ·exact .inr ⟨k,c,e,Iv x c e _ z⟩
 ·obtain⟨v,z⟩:=I.cell x c e
  exact⟨v,Iv x c e v z⟩
 ·obtain⟨m,⟨o,_,_,ho,_⟩,_⟩:=I.loc
  exact free _ o (λz=>(y7 _ z).2.1 rfl) ho I.free
 ·obtain⟨v,o,ho,hd⟩:=I.cell x c e
  exact free c o (λz=>(y7 c z).2.2.1 x c e rfl) ho (I.freeC x c e)
 ·obtain⟨e,n,ne,nf,d⟩:=I.pin p hp
  have JQ:p.1 ∉ ch:=λz=>(y7 p.1 z).2.2.2 p hp rfl
  exact⟨keep p.1 p.2 ne nf JQ e n,free p.1 p.2 JQ e n,ne,nf,d⟩
theorem Inv.un{t':Nat}(I:Inv X pins σ H s)(u:Un X.fs [] H H' s.heap h')(hok:HOk X.prog X.w H' h'):Inv X pins σ H' {s with heap:=h',toks:=t'}:=by
 obtain⟨m,⟨o,es,ep,ho,r⟩,_⟩:=id I.loc
 obtain⟨sl,hL⟩:=u.any ho I.free (by simp)
 exact I.step (g':=s.gens) (d':=s.drawn) (ch:=[]) (λ_ z=>nomatch z) (λb o _ hb _ e n=>u.keep b o e n hb (by simp)) (λb o _ hb _ e n=>u.slot b o e n hb (by simp)) (λb o _ e n=>u.free b o e n (by simp)) (λb o _ e=>u.there b o e (by simp)) u.tups u.frzs u.tbls (λm' hm=>by
  obtain⟨o',Lr,Ls,u9,r'⟩:=hm
  rw[ho] at u9;cases u9
  exact⟨_,Lr,Ls,hL,r'⟩) hok I.bare
theorem Inv.call{g':Array GenState}{t':Nat}{d':Drawn}{ch:List Addr}(I:Inv X pins σ H s)(u:Un (frs X.stack) ch H H' s.heap h')(hok:HOk X.prog X.w H' h')(hg:AllBare g')
  (y7:∀ b∈ch,(b∈X.ex\/X.s₀.heap.objs.size<=b)/\b≠X.env.locals/\(∀ x c,X.env.cells.lookup x=some c->c≠b)/\∀ p∈X.pn++pins,p.1≠b):
  Inv X pins σ H' {s with heap:=h',gens:=g',drawn:=d',toks:=t'}:=by
 obtain⟨m,⟨o,es,ep,ho,r⟩,_⟩:=id I.loc
 obtain⟨sl,hL⟩:=u.any ho I.free λz=>(y7 _ z).2.1 rfl
 exact I.step (ch:=ch) y7 (λb o hL hb hc e n=>u.keep b o e n (λz=>(EU.mp (I.stkSub b z)).elim hL hb) hc) (λb o _ _ hc e n=>u.any e n hc) (λb o hc e n=>u.free b o e n hc) (λb o hc e=>u.there b o e hc) u.tups u.frzs u.tbls (λm' hm=>by
  obtain⟨o',Lr,Ls,u9,r'⟩:=hm
  rw[ho] at u9;cases u9
  exact⟨_,Lr,Ls,hL,r'⟩) hok hg
theorem Inv.turned{t':Nat}{it:Addr}(I:Inv X pins σ H s)(k:∀ b o,b≠it->s.heap.get? b=some o->h'.get? b=some o)(hn:H it=none)(hL:it≠X.env.locals)
  (h1:it∈X.ex\/X.s₀.heap.objs.size<=it) (h2:∀ x c,X.env.cells.lookup x=some c->c≠it) (h3:∀ p∈X.pn++pins,p.1≠it):Inv X pins σ H {s with heap:=h',toks:=t'}:=by
 have IK:∀ b u,H b=some u->b≠it:=λb u e z=>by rw[z,hn] at e;cases e
 refine I.step (g':=s.gens) (d':=s.drawn) (ch:=[it]) (λb hb=>?_) (λb o _ _ hc e _=>k b o (λz=>hc (by simp[z])) e) (λb o _ _ hc e _=>⟨o.slots,k b o (λz=>hc (by simp[z])) e⟩) (λ_ _ _ _ n=>n)
  (λb o hc e=>⟨o,k b o (λz=>hc (by simp[z])) e⟩) (λ_ _ e=>e) (λ_ _ _ e=>e) (λb ps e=>⟨#[],by rw[e];simp⟩) (λm hm=>?_) (λb u e=>?_) I.bare
 ·have e:b=it:=by simpa using hb
  subst e
  exact⟨h1,hL,h2,h3⟩
 ·obtain⟨o,es,ep,ho,r⟩:=hm
  exact⟨o,es,ep,k _ o (Ne.symm hL) ho,r⟩
 ·refine(I.hok b u e).stay (λc v hc q=>k c v ?_ q) (λ_ q=>q) λ_ _ q=>q
  rcases hc with z|z
  ·rw[z];exact IK b u e
  ·exact IK c _ z
theorem Inv.tok(I:Inv X pins σ H s)(t:Nat):Inv X pins σ H {s with toks:=t}:=I.un (h':=s.heap) (t':=t) Un.refl I.hok
theorem Inv.kept{t':Nat}(I:Inv X pins σ H s)(k:∀ b u,s.heap.get? b=some u->h'.get? b=some u):Inv X pins σ H {s with heap:=h',toks:=t'}:=I.un (Un.kept k) (I.hok.kept k)
theorem Inv.laid{a:Addr}{o:HO}{t':Nat}(I:Inv X pins σ H s)(k:∀ b u,s.heap.get? b=some u->h'.get? b=some u)(hp:s.heap.objs.size<=a)(new:ObjOk X.prog X.w (upd H a o) h' a o):
  Inv X pins σ (upd H a o) {s with heap:=h',toks:=t'}:=I.un (Un.laid k hp (I.hok.fresh hp)) (I.hok.laid k hp new)
theorem Inv.write{x e:Addr}{o:HO}{t':Nat}(I:Inv X pins σ H s)(mu:Mut (H x))(he:e=x\/H e=some (.own x))(k:∀ b u,b≠e->s.heap.get? b=some u->h'.get? b=some u)(x_:∃ u,h'.get? e=some u)
  (new:ObjOk X.prog X.w (upd H x o) h' x o):Inv X pins σ (upd H x o) {s with heap:=h',toks:=t'}:=I.un (Un.write mu he k x_) (I.hok.write mu he k x_ new)
theorem Inv.pins_of{Iw:List (Addr × Obj)}(I:Inv X pins σ H s)(h:∀ p∈Iw,s.heap.get? p.1=some p.2/\H p.1=none/\p.1≠X.env.locals/\p.1 ∉ X.fs/\∀ v,p.2.data≠.cell v):Inv X Iw σ H s:=
 ⟨I.ok,I.os,I.bare,I.base,I.loc,I.cell,I.free,I.freeC,λp hp=>(Fk.mp hp).elim (λz=>I.pin p (FJ _ z)) (h p),I.hok,I.len⟩
theorem oP{N:List Str}(hN:N.Nodup){i j:Nat}{x:Str}(a:N[i]?=some x)(b:N[j]?=some x):i=j:=by
 obtain⟨h1,e1⟩:=Fb.mp a
 obtain⟨h2,e2⟩:=Fb.mp b
 exact(List.getElem_inj hN).mp (e1.trans e2.symm)
theorem oQ{M:Model}{A:Around}{E:Value->Shared->Prop}{i:Nat}{x:Str}{v:V}{u:Value}{Q:Unit->Shared->Prop}(I:Inv X pins σ H s)(hN:X.N.Nodup)(hi:X.N[i]?=some x)(hx:Loc X.env.scope x)(r:RelV v u)
  (h:∀ s',Inv X pins (σ.set i (some v)) H s'->(∃ a,Heap.SameBut a s.heap s'.heap/\(a=X.env.locals\/X.env.cells.lookup x=some a))->Q () s') (hf:zFN X x:=by first|exact .inl rfl|exact .inr rfl|assumption):wpAny M A (storeName X.env x u) Q E s:=by
 obtain⟨m,hn,hl⟩:=id I.loc
 have Lu:(X.env.scope.kind== .class||(X.env.scope.kind== .module && X.env.locals !=X.env.globals))=false:=by rw[I.ok.kind];rfl
 have hiσ:i<σ.length:=by rw[I.len];exact(Fb.mp hi).1
 have cne:=I.cne
 have j9:∀ {a:Addr} {h':Heap},(∃ o,s.heap.get? a=some o/\H a=none)->Heap.SameBut a s.heap h'->HOk X.prog X.w H h':=λ{a h'} ha hs b ob e=>by
  obtain⟨_,_,j6⟩:=ha
  refine(I.hok b ob e).stay (λc w' hc q=>(hs.2 c ?_).trans q) (λ_ q=>q) λ_ _ q=>q
  rintro rfl
  rcases hc with rfl|hc
  ·rw[j6] at e;cases e
  ·rw[j6] at hc;cases hc
 rcases hx with hk|hk
 ·refine wpAny_storeName_local hk hn (λh' k8 hs=>?_) Lu
  obtain⟨oL,_,_,Oz,_⟩:=id hn
  refine h _ ⟨I.ok,I.os,I.bare,⟨λb o e n hb hx=>?_,λb o e n hb hx=>?_,I.base.free,λb o e hx=>?_,I.base.tups,I.base.frzs,I.base.tbls⟩,⟨_,k8,λj y v' e1 e2 e3=>?_⟩,λy c e=>?_,I.free,I.freeC,λp hp=>?_,j9 ⟨oL,Oz,I.free⟩ hs,by simpa using I.len⟩ ⟨_,hs,.inl rfl⟩
  ·exact(hs.2 b (E3 (Fo (Heap.lt_size e) I.ok.above))).trans (I.base.keep b o e n hb hx)
  ·obtain⟨sl,e1⟩:=I.base.slot b o e n hb hx
   exact⟨sl,(hs.2 b (E3 (Fo (Heap.lt_size e) I.ok.above))).trans e1⟩
  ·obtain⟨o',e1⟩:=I.base.there b o e hx
   exact⟨o',(hs.2 b (E3 (Fo (Heap.lt_size e) I.ok.above))).trans e1⟩
  ·by_cases hj:j=i
   ·subst hj
    rw[hi] at e1;cases e1
    rw[FG hiσ] at e2
    cases e2
    exact⟨u,r,.inl ⟨hk,by simp⟩⟩
   ·rw[Ff (Ne.symm hj)] at e2
    obtain⟨u',r',q⟩:=hl j y v' e1 e2 e3
    refine⟨u',r',?_⟩
    rcases q with⟨k,e⟩|⟨k,c,e,z⟩
    ·refine .inl ⟨k,?_⟩
     have:y≠x:=λe=>hj (oP hN e1 (e ▸ hi))
     simp[this,e]
    ·exact .inr ⟨k,c,e,z.sameBut hs (cne y c e)⟩
  ·obtain⟨w',z⟩:=I.cell y c e
   exact⟨w',z.sameBut hs (cne y c e)⟩
  ·obtain⟨e,n,ne,nf,d⟩:=I.pin p hp
   exact⟨(hs.2 p.1 ne).trans e,n,ne,nf,d⟩
 ·have JR:X.fn x=true:=by
   rcases hf with z|z
   ·exact z
   ·rw[z] at hk;cases hk
  obtain⟨c,hc⟩:=I.ok.has x (.inl hk)
  obtain⟨w',z⟩:=I.cell x c hc
  refine wpAny_storeName_cell I.ok.kind hk hc z (λh' Ix hs=>?_)
  obtain⟨oc,NB,Lv⟩:=id z
  refine h {s with heap:=h'} ⟨I.ok,I.os,I.bare,⟨λb o e n hb hx=>?_,λb o e n hb hx=>?_,I.base.free,λb o e hx=>?_,I.base.tups,I.base.frzs,I.base.tbls⟩,⟨m,hn.sameBut hs (Ne.symm (cne x c hc)),λj y v' e1 e2 e3=>?_⟩,λy c' e=>?_,I.free,I.freeC,λp hp=>?_,j9 ⟨oc,NB,I.freeC x c hc⟩ hs,by simpa using I.len⟩ ⟨c,hs,.inr hc⟩
  ·exact(hs.2 b (E3 (Fo (Heap.lt_size e) (I.ok.cab x c JR hc)))).trans (I.base.keep b o e n hb hx)
  ·obtain⟨sl,e1⟩:=I.base.slot b o e n hb hx
   exact⟨sl,(hs.2 b (E3 (Fo (Heap.lt_size e) (I.ok.cab x c JR hc)))).trans e1⟩
  ·obtain⟨o',e1⟩:=I.base.there b o e hx
   exact⟨o',(hs.2 b (E3 (Fo (Heap.lt_size e) (I.ok.cab x c JR hc)))).trans e1⟩
  ·by_cases hj:j=i
   ·subst hj
    rw[hi] at e1;cases e1
    rw[FG hiσ] at e2
    cases e2
    exact⟨u,r,.inr ⟨.inl hk,c,hc,Ix⟩⟩
   ·rw[Ff (Ne.symm hj)] at e2
    obtain⟨u',r',q⟩:=hl j y v' e1 e2 e3
    refine⟨u',r',?_⟩
    rcases q with q|⟨k,c',e,z'⟩
    ·exact .inl q
    ·refine .inr ⟨k,c',e,z'.sameBut hs ?_⟩
     rintro rfl
     exact hj (oP hN e1 (I.ok.inj _ _ _ e hc ▸ hi))
  ·by_cases NC:c'=c
   ·subst NC;exact⟨_,Ix⟩
   ·obtain⟨w2,z2⟩:=I.cell y c' e
    exact⟨w2,z2.sameBut hs NC⟩
  ·obtain⟨e,n,ne,nf,d⟩:=I.pin p hp
   refine⟨(hs.2 p.1 ?_).trans e,n,ne,nf,d⟩
   intro q
   rw[q,NB] at e
   have q':oc=p.2:=Option.some.inj e
   exact d w' (by rw[<- q'];exact Lv)
theorem dU{M:Model}{A:Around}{E:Value->Shared->Prop}{i:Nat}{x:Str}{v:V}{u:Value}{Q:Unit->Shared->Prop}(I:Inv X pins σ H s)(hN:X.N.Nodup)(hi:X.N[i]?=some x)(hx:Loc X.env.scope x)(r:RelV v u)
  (h:∀ s',Inv X pins (σ.set i (some v)) H s'->Q () s') (hf:zFN X x:=by first|exact .inl rfl|exact .inr rfl|assumption):wpAny M A (storeName X.env x u) Q E s:=
 oQ I hN hi hx r (λs' I' _=>h s' I') hf
theorem Inv.call'{s':Shared}{ch:List Addr}(I:Inv X pins σ H s)(ho:s'.os=s.os)(u:Un (frs X.stack) ch H H' s.heap s'.heap)(hok:HOk X.prog X.w H' s'.heap)(hg:AllBare s'.gens)
  (y7:∀ b∈ch,(b∈X.ex\/X.s₀.heap.objs.size<=b)/\b≠X.env.locals/\(∀ x c,X.env.cells.lookup x=some c->c≠b)/\∀ p∈X.pn++pins,p.1≠b):Inv X pins σ H' s':=by
 obtain⟨h',g',d',t',o'⟩:=s'
 have e:o'=s.os:=ho
 subst e
 exact I.call (g':=g') (t':=t') (d':=d') u hok hg y7
end
abbrev XK:=Value->Option Addr->Hp->Prop
abbrev St:=List (Option V)
abbrev VK:=V->Hp->Prop
abbrev TE:=St->Hp->VK->Prop
abbrev TT:=St->Hp->(Bool->Hp->Prop)->Prop
abbrev TA:=St->Hp->(List V->Hp->Prop)->Prop
structure Ends where
 nx:St->Hp->Prop
 rt:VK
 bk:St->Hp->Prop:=λ_ _=>False
 ct:St->Hp->Prop:=λ_ _=>False
abbrev TS:=Ends->St->Hp->Prop
def EP(X:Cx)(pins:List (Addr × Obj))(σ:St)(Q:VK)(u:Value)(s':Shared):Prop:=∃ v H',Inv X pins σ H' s'/\RelV v u/\Q v H'
def TP(X:Cx)(pins:List (Addr × Obj))(σ:St)(Q:Bool->Hp->Prop)(b:Bool)(s':Shared):Prop:=∃ H',Inv X pins σ H' s'/\Q b H'
def AP(X:Cx)(pins:List (Addr × Obj))(σ:St)(Q:List V->Hp->Prop)(us:List Value)(s':Shared):Prop:=∃ vs H',Inv X pins σ H' s'/\Vals vs us/\Q vs H'
def SP(X:Cx)(pins:List (Addr × Obj))(D:Ends)(f:Flow)(s':Shared):Prop:=
 match f with
 | .next=>∃ σ' H',Inv X pins σ' H' s'/\D.nx σ' H'
 | .brk=>∃ σ' H',Inv X pins σ' H' s'/\D.bk σ' H'
 | .cont=>∃ σ' H',Inv X pins σ' H' s'/\D.ct σ' H'
 | .ret u=>∃ v σ' H',Inv X pins σ' H' s'/\RelV v u/\D.rt v H'
def PE(X:Cx)(e:Expr)(t:TE):Prop:=
 ∀ (pins:List (Addr × Obj)) (s:Shared) (σ:St) (H:Hp) (Q:VK),Inv X pins σ H s->t σ H Q->wpAny (model X.prog X.w) X.A (eval e X.env) (EP X pins σ Q) X.xe s
def PT(X:Cx)(e:Expr)(t:TT):Prop:=
 ∀ (pins:List (Addr × Obj)) (s:Shared) (σ:St) (H:Hp) (Q:Bool->Hp->Prop),Inv X pins σ H s->t σ H Q->wpAny (model X.prog X.w) X.A (isTrue e X.env (eval e X.env)) (TP X pins σ Q) X.xe s
def PW(X:Cx)(e:Expr)(t:TT):Prop:=
 ∀ (g7:Sem Value) (pins:List (Addr × Obj)) (s:Shared) (σ:St) (H:Hp) (Q:Bool->Hp->Prop),Inv X pins σ H s->t σ H Q->wpAny (model X.prog X.w) X.A (isTrue e X.env g7) (TP X pins σ Q) X.xe s
theorem PW.pt{X:Cx}{e:Expr}{t:TT}(h:PW X e t):PT X e t:=h _
def PA(X:Cx)(es:List Expr)(t:TA):Prop:=
 ∀ (pos:Pos) (pins:List (Addr × Obj)) (s:Shared) (σ:St) (H:Hp) (Q:List V->Hp->Prop),Inv X pins σ H s->t σ H Q->wpAny (model X.prog X.w) X.A (spliced (backTo pos (starEach es X.env))) (AP X pins σ Q) X.xe s
def PS(X:Cx)(st:Stmt)(t:TS):Prop:=
 ∀ (pins:List (Addr × Obj)) (s:Shared) (σ:St) (H:Hp) (D:Ends),Inv X pins σ H s->t D σ H->wpAny (model X.prog X.w) X.A (exec st X.env) (SP X pins D) X.xe s
def PSs(X:Cx)(st:List Stmt)(t:TS):Prop:=
 ∀ (pins:List (Addr × Obj)) (s:Shared) (σ:St) (H:Hp) (D:Ends),Inv X pins σ H s->t D σ H->wpAny (model X.prog X.w) X.A (execs st X.env) (SP X pins D) X.xe s
theorem thn{α:Type}{t:Sem α}{Q Q':α->Shared->Prop}{M:Model}{A:Around}{E:Value->Shared->Prop}{s:Shared}(h:wpAny M A t Q E s)(hQ:∀ a s,Q a s->Q' a s):wpAny M A t Q' E s:=wpAny_mono h hQ λ_ _ x=>x
section
variable {X:Cx}
theorem bin{a b:Expr}{ta tb:TE}(ha:PE X a ta)(hb:PE X b tb){pins:List (Addr × Obj)}{s:Shared}{σ:St}{H:Hp}{R:V->V->Hp->Prop}(I:Inv X pins σ H s)(h:ta σ H λx H1=>tb σ H1 λy H2=>R x y H2)
  {α:Type} {Q:α->Shared->Prop} {f:Value->Value->Sem α}
  (hf:∀ v u s2 x y H2,Inv X pins σ H2 s2->RelV x v->RelV y u->R x y H2->wpAny (model X.prog X.w) X.A (f v u) Q X.xe s2):
  wpAny (model X.prog X.w) X.A (eval a X.env) (λv s₁=>wpAny (model X.prog X.w) X.A (eval b X.env) (λu s₂=>wpAny (model X.prog X.w) X.A (f v u) Q X.xe s₂) X.xe s₁) X.xe s:=by
 refine thn (ha pins s σ H _ I h) λv s1 ⟨x,H1,I1,r1,q1⟩=>?_
 refine thn (hb pins s1 σ H1 _ I1 q1) λu s2 ⟨y,H2,I2,r2,q2⟩=>?_
 exact hf v u s2 x y H2 I2 r1 r2 q2
def tVar(i:Nat):TE:=λσ H Q=>∃ v,σ[i]?=some (some v)/\Q v H
def tC(v:V):TE:=λ_ H Q=>Q v H
theorem du{i:Nat}{x:Str}{pos:Pos}(hN:X.N[i]?=some x)(hv:Vis X.env.scope x)(hd:zND x:=by decide)(ge:zNC x:=by decide):PE X (.Name x pos) (tVar i):=by
 intro pins s σ H Q I h
 obtain⟨v,e,h⟩:=h
 obtain⟨m,hn,hl⟩:=I.loc
 obtain⟨u,r,l⟩:=hl i x v hN e hv
 have d5:EP X pins σ Q u s:=⟨v,H,I,r,h⟩
 rcases l with⟨hk,hm⟩|⟨hk,c,hc,k9⟩
 ·exact wpAny_Name (wpAny_loadName_local I.ok.kind hk hn hm d5) hd
 ·rcases hk with hk|hk
  ·exact wpAny_Name (wpAny_loadName_cell I.ok.kind hk hc k9 d5) hd
  ·exact wpAny_Name (wpAny_loadName_free I.ok.kind hk hc k9 d5 ge) hd
theorem uv{i j pos}:PE X (.Constant (.int i) j pos) (tC (.int i)):=λ_ _ _ H _ I h=>wpAny_Constant_int ⟨.int i,H,I.tok _,⟨_,rfl⟩,h⟩
theorem uw{b j pos}:PE X (.Constant (.bool b) j pos) (tC (.bl b)):=λ_ _ _ H _ I h=>Constant_bool ⟨.bl b,H,I,rfl,h⟩
theorem ux{j pos}:PE X (.Constant .none j pos) (tC .non):=λ_ _ _ H _ I h=>Constant_none ⟨.non,H,I,rfl,h⟩
theorem oR{x j pos}:PE X (.Constant (.str x) j pos) (tC (.str x)):=λ_ _ _ H _ I h=>Calls.Constant_str ⟨.str x,H,I.tok _,⟨_,rfl⟩,h⟩
def Gl(X:Cx)(x:Str):Prop:=X.env.kindOf x=some .globalImplicit
theorem cF{E:Value->Shared->Prop}{pins:List (Addr × Obj)}{s:Shared}{σ:St}{H:Hp}{x:Str}{u:Value}{pos:Pos}{Q:Value->Shared->Prop}(I:Inv X pins σ H s)(hg:Gl X x)(hm:X.mg x=some u)(h:Q u s)
  (hd:zND x:=by decide):wpAny (model X.prog X.w) X.A (eval (.Name x pos) X.env) Q E s:=
 Calls.Name_function_global I.ok.kind hg (Calls.loadGlobal_global (by rw[I.ok.glob];exact I.mod.glob.keeps I.bk) hm h) hd
theorem dv{E:Value->Shared->Prop}{pins:List (Addr × Obj)}{s:Shared}{σ:St}{H:Hp}{x:Str}{u:Value}{pos:Pos}{Q:Value->Shared->Prop}(I:Inv X pins σ H s)(hg:Gl X x)(hm:X.mg x=none)(hv:bootBuiltins x=some u)(h:Q u s)
  (hn:x≠"__name__":=by decide) (hd:zND x:=by decide):wpAny (model X.prog X.w) X.A (eval (.Name x pos) X.env) Q E s:=by
 obtain⟨mb,h1,h2⟩:=I.mod.blt
 exact Calls.Name_function_global I.ok.kind hg (Calls.loadGlobal_builtin (by rw[I.ok.glob];exact I.mod.glob.keeps I.bk) hm (by rw[I.ok.blt];exact h1.keeps I.bk) ((h2 x hn).trans hv) h) hd
theorem uy{x:Str}{v:V}{u:Value}{pos:Pos}(hg:Gl X x)(hm:X.mg x=some u)(r:RelV v u)(hd:zND x:=by decide):PE X (.Name x pos) (tC v):=
 λ_ _ _ H _ I h=>cF I hg hm ⟨v,H,I,r,h⟩ hd
theorem uz{x:Str}{v:V}{u:Value}{pos:Pos}(hg:Gl X x)(hm:X.mg x=none)(hv:bootBuiltins x=some u)(r:RelV v u)(hn:x≠"__name__":=by decide)(hd:zND x:=by decide):PE X (.Name x pos) (tC v):=
 λ_ _ _ H _ I h=>dv I hg hm hv ⟨v,H,I,r,h⟩ hn hd
variable {a b:Expr}{ta tb:TE}{pos:Pos}
def tB(t:TE):TT:=λσ H Q=>t σ H λx H1=>∃ c,x= .bl c/\Q c H1
variable {tA y_:TT}{rest:List Expr}
def tAnd(t u:TT):TT:=λσ H Q=>t σ H λc H1=>if c=true then u σ H1 Q else Q false H1
def tOr(t u:TT):TT:=λσ H Q=>t σ H λc H1=>if c=true then Q true H1 else u σ H1 Q
def tNot(t:TT):TT:=λσ H Q=>t σ H λc H1=>Q (!c) H1
theorem oS(ha:PT X a tA):PW X (.BoolOp .And [a] pos) tA:=by
 intro wh pins s σ H Q I h
 refine isTrue_and (thn (ha pins s σ H Q I h) λc s1 e=>?_)
 cases c with
 |true=>exact isTrue_and_nil e
 |false=>exact e
theorem oU(ha:PT X a tA):PW X (.BoolOp .Or [a] pos) tA:=by
 intro wh pins s σ H Q I h
 refine isTrue_or (thn (ha pins s σ H Q I h) λc s1 e=>?_)
 cases c with
 |false=>exact isTrue_or_nil e
 |true=>exact e
theorem oV(ha:PT X a tA)(hb:PW X (.BoolOp .And (b::rest) pos) y_):PW X (.BoolOp .And (a::b::rest) pos) (tAnd tA y_):=by
 intro wh pins s σ H Q I h
 refine isTrue_and (thn (ha pins s σ H _ I h) λc s1 ⟨H1,I1,q1⟩=>?_)
 cases c with
 |true=>exact hb wh pins s1 σ H1 Q I1 q1
 |false=>exact⟨H1,I1,q1⟩
theorem oW(ha:PT X a tA)(hb:PW X (.BoolOp .Or (b::rest) pos) y_):PW X (.BoolOp .Or (a::b::rest) pos) (tOr tA y_):=by
 intro wh pins s σ H Q I h
 refine isTrue_or (thn (ha pins s σ H _ I h) λc s1 ⟨H1,I1,q1⟩=>?_)
 cases c with
 |true=>exact⟨H1,I1,q1⟩
 |false=>exact hb wh pins s1 σ H1 Q I1 q1
theorem va(ha:PT X a tA):PT X (.UnaryOp .Not a pos) (tNot tA):=by
 intro pins s σ H Q I h
 exact isTrue_not (ha pins s σ H (λc H1=>Q (!c) H1) I h)
def vb(ta tb:TE):TE:=λσ H Q=>ta σ H λx H1=>∃ c,x= .bl c/\if c=true then tb σ H1 Q else Q (.bl false) H1
def vc(ta:TE):TE:=λσ H Q=>ta σ H λx H1=>∃ c,x= .bl c/\Q (.bl (!c)) H1
theorem vd{op}{t:TE}(h:PE X a t):PE X (.BoolOp op [a] pos) t:=λpins s σ H Q I hw=>BoolOp_one (h pins s σ H Q I hw)
theorem ve(ha:PE X a ta)(hb:PE X (.BoolOp .And (b::rest) pos) tb):PE X (.BoolOp .And (a::b::rest) pos) (vb ta tb):=by
 intro pins s σ H Q I h
 refine BoolOp_and (thn (ha pins s σ H _ I h) λv s1 ⟨x,H1,I1,r1,q1⟩=>?_)
 obtain⟨c,rfl,q1⟩:=q1
 cases r1
 refine wpAny_truthy_bool ?_
 cases c with
 |true=>exact hb pins s1 σ H1 Q I1 q1
 |false=>exact⟨.bl false,H1,I1,rfl,q1⟩
theorem vf(ha:PE X a ta):PE X (.UnaryOp .Not a pos) (vc ta):=by
 intro pins s σ H Q I h
 refine UnaryOp_ (thn (ha pins s σ H _ I h) λv s1 ⟨x,H1,I1,r1,q1⟩=>?_)
 obtain⟨c,rfl,q1⟩:=q1
 cases r1
 exact not_of (wpAny_truthy_bool ⟨.bl (!c),H1,I1,rfl,q1⟩)
def tIf(t:TT)(ta tb:TE):TE:=λσ H Q=>t σ H λc H1=>if c=true then ta σ H1 Q else tb σ H1 Q
theorem oX{c:Expr}(hc:PT X c tA)(ha:PE X a ta)(hb:PE X b tb):PE X (.IfExp c a b pos) (tIf tA ta tb):=by
 intro pins s σ H Q I h
 refine wpAny_IfExp (thn (hc pins s σ H _ I h) λd s1 ⟨H1,I1,q1⟩=>?_)
 cases d with
 |true=>exact ha pins s1 σ H1 Q I1 q1
 |false=>exact hb pins s1 σ H1 Q I1 q1
end
def SqL(K:Ex)(H:Hp)(a:Addr)(xs:List V):Prop:=
 Rd H a (.lst xs)\/
  ∃ (o:Obj) (its:Array Value) (n:Nat),K.lookup a=some o/\o.cls= .type "list"/\o.dict=none/\o.data= .seq its n/\its.size<=sizeLine/\Vals xs its.toList
def SqT(K:Ex)(H:Hp)(a:Addr)(xs:List V):Prop:=
 Rd H a (.tup xs)\/
  ∃ (o:Obj) (its:Array Value) (n:Nat),K.lookup a=some o/\o.cls= .type "tuple"/\o.data= .seq its n/\its.size<=sizeLine/\Vals xs its.toList
def absV:Value->Option V
 | .none=>some .non
 | .bool b=>some (.bl b)
 | .int i _=>some (.int i)
 | .str x _=>some (.str x)
 | .bytes b _=>some (.byt b)
 | .float b _=>some (.flt b)
 | .ref a=>some (.ref a)
 | .type n=>some (.ty n)
 |_=>none
theorem RelV.abs{x:V}{u:Value}(r:RelV x u):absV u=some x:=by
 cases x with
 |non=>cases r;rfl
 |bl _=>cases r;rfl
 |int _=>obtain⟨t,rfl⟩:=r;rfl
 |str _=>obtain⟨t,rfl⟩:=r;rfl
 |byt _=>obtain⟨t,rfl⟩:=r;rfl
 |flt _=>obtain⟨t,rfl⟩:=r;rfl
 |ref _=>cases r;rfl
 |ty _=>cases r;rfl
theorem RelV.inj{x y:V}{u:Value}(r:RelV x u)(q:RelV y u):x=y:=Option.some.inj (r.abs.symm.trans q.abs)
theorem Vals.inj:∀ {xs ys:List V} {us:List Value},Vals xs us->Vals ys us->xs=ys
 |_,_,_,.nil,.nil=>rfl
 |_,_,_,.cons r t,.cons r' t'=>by rw[r.inj r',Vals.inj t t']
section
variable {X:Cx}{pins:List (Addr × Obj)}{σ:St}{H:Hp}{s:Shared}{a:Addr}{xs ys:List V}
theorem SqL.of{K:Ex}(h:H a=some (.lst xs)):SqL K H a xs:= .inl (.inl h)
theorem SqT.of{K:Ex}(h:H a=some (.tup xs)):SqT K H a xs:= .inl (.inl h)
theorem Inv.list(I:Inv X pins σ H s)(h:SqL X.K H a xs):∃ its:List Value,Vals xs its/\PlainL s.heap a its.toArray/\xs.length<=sizeLine:=by
 rcases h with h|⟨o,its,n,hk,hc,hd,hs,hz,r⟩
 ·obtain⟨z,its,n,r,e⟩:=h.ok I.hok
  exact⟨its,r,⟨_,n,e,rfl,rfl,rfl⟩,z⟩
 ·refine⟨its.toList,r,⟨o,n,I.kIn a o hk,hc,hd,by simpa using hs⟩,?_⟩
  have e:=r.length
  simp only[FS] at e
  lia
theorem Inv.tuple(I:Inv X pins σ H s)(h:SqT X.K H a xs):∃ its:List Value,Vals xs its/\IsTup s.heap a its.toArray/\xs.length<=sizeLine:=by
 rcases h with h|⟨o,its,n,hk,hc,hs,hz,r⟩
 ·obtain⟨z,its,r,p⟩:=h.ok I.hok
  exact⟨its,r,p,z⟩
 ·refine⟨its.toList,r,⟨o,I.kIn a o hk,hc,n,by simpa using hs⟩,?_⟩
  have e:=r.length
  simp only[FS] at e
  lia
theorem Inv.list_inj(I:Inv X pins σ H s)(h:SqL X.K H a xs)(h':SqL X.K H a ys):xs=ys:=by
 obtain⟨its,r,⟨o,n,e,_,_,d⟩,_⟩:=I.list h
 obtain⟨its',r',⟨o',n',e',_,_,d'⟩,_⟩:=I.list h'
 rw[e] at e';cases e'
 rw[d] at d'
 injection d' with d1 _
 have:its=its':=by simpa using congrArg Array.toList d1
 subst this
 exact r.inj r'
end
abbrev Cx.wish(X:Cx)(E:Value->Shared->Prop):Cx:={X with xe:=E}
abbrev Cx.nox(X:Cx):Cx:=X.wish λ_ _=>False
theorem Cx.Ok.wish{X:Cx}(ok:X.Ok)(E:Value->Shared->Prop):(X.wish E).Ok:=
 ⟨ok.mod,ok.kind,ok.glob,ok.blt,ok.above,ok.inj,ok.has,ok.cab,ok.hd,ok.frames,ok.stk,ok.exf,ok.bs,ok.bsz,ok.noex,ok.exfs,ok.funs,ok.frf⟩
theorem Cx.Ok.unwish{X:Cx}{E:Value->Shared->Prop}(ok:(X.wish E).Ok):X.Ok:=
 ⟨ok.mod,ok.kind,ok.glob,ok.blt,ok.above,ok.inj,ok.has,ok.cab,ok.hd,ok.frames,ok.stk,ok.exf,ok.bs,ok.bsz,ok.noex,ok.exfs,ok.funs,ok.frf⟩
section
variable {X:Cx}{pins:List (Addr × Obj)}{σ:St}{H:Hp}{s:Shared}{E:Value->Shared->Prop}
theorem Inv.wish(I:Inv X pins σ H s)(E:Value->Shared->Prop):Inv (X.wish E) pins σ H s:=⟨I.ok.wish E,I.os,I.bare,I.base,I.loc,I.cell,I.free,I.freeC,I.pin,I.hok,I.len⟩
theorem Inv.unwish(I:Inv (X.wish E) pins σ H s):Inv X pins σ H s:=⟨I.ok.unwish,I.os,I.bare,I.base,I.loc,I.cell,I.free,I.freeC,I.pin,I.hok,I.len⟩
theorem SP.unwish{D:Ends}{f:Flow}{s':Shared}(h:SP (X.wish E) pins D f s'):SP X pins D f s':=by
 cases f with
 |next=>obtain⟨σ',H',I,q⟩:=h;exact⟨σ',H',I.unwish,q⟩
 |brk=>obtain⟨σ',H',I,q⟩:=h;exact⟨σ',H',I.unwish,q⟩
 |cont=>obtain⟨σ',H',I,q⟩:=h;exact⟨σ',H',I.unwish,q⟩
 |ret u=>obtain⟨v,σ',H',I,r,q⟩:=h;exact⟨v,σ',H',I.unwish,r,q⟩
theorem PE.nox{e:Expr}{t:TE}(h:PE X.nox e t):PE X e t:=λpins s σ H Q I hw=>
 wpAny_mono (h pins s σ H Q (I.wish _) hw) (λ_ _ ⟨v,H',I',r,q⟩=>⟨v,H',I'.unwish,r,q⟩) λ_ _ z=>False.elim z
theorem PT.nox{e:Expr}{t:TT}(h:PT X.nox e t):PT X e t:=λpins s σ H Q I hw=>
 wpAny_mono (h pins s σ H Q (I.wish _) hw) (λ_ _ ⟨H',I',q⟩=>⟨H',I'.unwish,q⟩) λ_ _ z=>False.elim z
theorem PSs.nox{st:List Stmt}{t:TS}(h:PSs X.nox st t):PSs X st t:=λpins s σ H D I hw=>
 wpAny_mono (h pins s σ H D (I.wish _) hw) (λ_ _ q=>q.unwish) λ_ _ z=>False.elim z
end
section
variable {X:Cx}{st:Stmt}{rest:List Stmt}{t u:TS}{e:Expr}{te:TE}{pos:Pos}
def vg:TS:=λD σ H=>D.nx σ H
def tSeq(t u:TS):TS:=λD σ H=>t {D with nx:=u D} σ H
theorem pss_nil:PSs X [] vg:=λ_ _ σ H _ I h=>wpAny_execs_nil ⟨σ,H,I,h⟩
theorem fg(h1:PS X st t)(h2:PSs X rest u):PSs X (st::rest) (tSeq t u):=by
 intro pins s σ H D I h
 refine wpAny_execs_cons (thn (h1 pins s σ H {D with nx:=u D} I h) λf s1 q=>?_)
 cases f with
 |next=>
  obtain⟨σ',H',I',q⟩:=q
  exact h2 pins s1 σ' H' D I' q
 |ret v=>exact q
 |brk=>exact q
 |cont=>exact q
theorem oY(h1:PS X st t):PSs X [st] t:=by
 intro pins s σ H D I h
 refine wpAny_execs_cons (thn (h1 pins s σ H D I h) λf s1 q=>?_)
 cases f with
 |next=>exact wpAny_execs_nil q
 |ret v=>exact q
 |brk=>exact q
 |cont=>exact q
theorem Inv.quiet{pins:List (Addr × Obj)}{σ:St}{H:Hp}{s:Shared}(I:Inv X pins σ H s):interactive X.env=false:=by simp[interactive,I.ok.kind]
def vh(te:TE):TS:=λD σ H=>te σ H λ_ H1=>D.nx σ H1
theorem jp(he:PE X e te)(hs:swapsWith e none pos.line X.env=pure false:=by rfl):PS X (.Expr e pos) (vh te):=by
 intro pins s σ H D I h
 exact wpAny_Expr_any (thn (he pins s σ H _ I h) λv s1 ⟨x,H1,I1,r1,q1⟩=>⟨σ,H1,I1,q1⟩) I.quiet hs
def tRet(te:TE):TS:=λD σ H=>te σ H D.rt
theorem oZ(he:PE X e te):PS X (.Return (some e) pos) (tRet te):=by
 intro pins s σ H D I h
 exact wpAny_Return_some (thn (he pins s σ H _ I h) λv s1 ⟨x,H1,I1,r1,q1⟩=>⟨x,σ,H1,I1,r1,q1⟩)
def tIfS(c:TT)(t u:TS):TS:=λD σ H=>c σ H λb H1=>if b=true then t D σ H1 else u D σ H1
theorem pd{c:Expr}{a b:List Stmt}{tc:TT}(hc:PT X c tc)(ha:PSs X a t)(hb:PSs X b u):PS X (.If c a b pos) (tIfS tc t u):=by
 intro pins s σ H D I h
 refine wpAny_If (thn (hc pins s σ H _ I h) λd s1 ⟨H1,I1,q1⟩=>?_)
 cases d with
 |true=>exact ha pins s1 σ H1 D I1 q1
 |false=>exact hb pins s1 σ H1 D I1 q1
end
abbrev TG:=V->St->Hp->(St->Hp->Prop)->Prop
abbrev TGs:=List V->St->Hp->(St->Hp->Prop)->Prop
def PG(X:Cx)(f_:Expr)(t:TG):Prop:=
 ∀ (pins:List (Addr × Obj)) (s:Shared) (σ:St) (H:Hp) (v:V) (u:Value) (Q:St->Hp->Prop),Inv X pins σ H s->RelV v u->t v σ H Q->
  wpAny (model X.prog X.w) X.A (assign f_ X.env u) (λ_ s'=>∃ σ' H',Inv X pins σ' H' s'/\Q σ' H') X.xe s
def PGs(X:Cx)(ts:List Expr)(t:TGs):Prop:=
 ∀ (pins:List (Addr × Obj)) (s:Shared) (σ:St) (H:Hp) (vs:List V) (us:List Value) (Q:St->Hp->Prop),Inv X pins σ H s->Vals vs us->t vs σ H Q->
  wpAny (model X.prog X.w) X.A (assignInOrder ((assignEach ts X.env).map (·.2)) us) (λ_ s'=>∃ σ' H',Inv X pins σ' H' s'/\Q σ' H') X.xe s
abbrev TSet:=V->V->V->Hp->(Hp->Prop)->Prop
def PSet(X:Cx)(t:TSet):Prop:=
 ∀ (pins:List (Addr × Obj)) (s:Shared) (σ:St) (H:Hp) (o i v:V) (ov iv u:Value) (Q:Hp->Prop),Inv X pins σ H s->RelV o ov->RelV i iv->RelV v u->t o i v H Q->
  wpAny (model X.prog X.w) X.A (setItem ov iv u) (λ_ s'=>∃ H',Inv X pins σ H' s'/\Q H') X.xe s
section
variable {X:Cx}{pos:Pos}
def fj(i:Nat):TG:=λv σ H Q=>Q (σ.set i (some v)) H
theorem fk{i:Nat}{x:Str}(hN:X.N.Nodup)(hi:X.N[i]?=some x)(hx:Loc X.env.scope x)(hf:zFN X x:=by first|exact .inl rfl|exact .inr rfl|assumption):PG X (.Name x pos) (fj i):=by
 intro pins s σ H v u Q I r h
 exact wpAny_assign_Name (dU I hN hi hx r (λs' I'=>⟨_,H,I',h⟩) hf)
def gNil:TGs:=λvs σ H Q=>vs=[]/\Q σ H
def vi(t:TG)(u:TGs):TGs:=λvs σ H Q=>∃ v r,vs=v::r/\t v σ H λσ' H'=>u r σ' H' Q
theorem vj:PGs X [] gNil:=by
 intro pins s σ H vs us Q I r h
 obtain⟨e,h⟩:=h
 subst e
 cases r
 exact assignInOrder_nil ⟨σ,H,I,h⟩
theorem vk{e:Expr}{es:List Expr}{t:TG}{u:TGs}(h1:PG X e t)(h2:PGs X es u)
  (hs:(assignEach (e::es) X.env).map (·.2)=assign e X.env::(assignEach es X.env).map (·.2):=by rfl):PGs X (e::es) (vi t u):=by
 intro pins s σ H vs us Q I r h
 obtain⟨v,vr,e1,h⟩:=h
 subst e1
 cases r with
 |cons r rr=>
  rw[hs]
  refine assignInOrder_cons (thn (h1 pins s σ H _ _ _ I r h) λ_ s1 ⟨σ1,H1,I1,q1⟩=>?_)
  exact h2 pins s1 σ1 H1 _ _ Q I1 rr q1
def gTup(K:Ex)(n:Nat)(t:TGs):TG:=λv σ H Q=>∃ a xs,v= .ref a/\SqT K H a xs/\xs.length=n/\t xs σ H Q
theorem fo{es:List Expr}{k:Nat}{t:TGs}{n:Nat}(hc:X.calm=true)(h:PGs X es t)
  (hn:(assignEach es X.env).length=n:=by rfl) (k_:(assignEach es X.env).findIdx? (·.1)=none:=by rfl):PG X (.Tuple es k pos) (gTup X.K n t):=by
 intro pins s σ H v u Q I r hw
 obtain⟨a,xs,e1,hq,hl,hw⟩:=hw
 subst e1
 cases r
 obtain⟨its,rv,ht,hz⟩:=I.tuple hq
 refine assign_Tuple_tuple (I.ok.hd hc) ht (by simp[hn,<- hl,rv.length]) k_ λh' hx=>?_
 have I1:Inv X pins σ H {s with heap:=h'}:=I.kept (t':=s.toks) λb o e=>hx b o (E3 (Heap.lt_size e)) e
 exact h pins _ σ H xs _ Q I1 (by simpa using rv) hw
def gSub(to ti:TE)(t:TSet):TG:=λv σ H Q=>to σ H λo H1=>ti σ H1 λi H2=>t o i v H2 λH3=>Q σ H3
theorem vm{o i:Expr}{to ti:TE}{t:TSet}(ho:PE X o to)(hi:PE X i ti)(hs:PSet X t)
  (ha:∀ v,assign (.Subscript o i pos) X.env v=(do
   let ov <- holding [v] (eval o X.env)
   let iv <- holding [v,ov] (eval i X.env)
   standAt pos
   holding [v,ov,iv] (setItem ov iv v)
   release [v,ov,iv] []):=by intro _;rfl):PG X (.Subscript o i pos) (gSub to ti t):=by
 intro pins s σ H v u Q I r h
 rw[ha]
 refine wpAny_bind (wpAny_holding (thn (ho pins s σ H _ I h) λov s1 ⟨x,H1,I1,r1,q1⟩=>?_))
 refine wpAny_bind (wpAny_holding (thn (hi pins s1 σ H1 _ I1 q1) λiv s2 ⟨y,H2,I2,r2,q2⟩=>?_))
 refine wpAny_bind (wpAny_standAt (wpAny_bind (wpAny_holding (thn (hs pins s2 σ H2 x y v ov iv u _ I2 r1 r2 r q2) λ_ s3 ⟨H3,I3,q3⟩=>?_))))
 exact wpAny_release ⟨σ,H3,I3,q3⟩
def tAsg(te:TE)(g:TG):TS:=λD σ H=>te σ H λx H1=>g x σ H1 D.nx
theorem jq{tg e:Expr}{te:TE}{g:TG}(he:PE X e te)(hg:PG X tg g)(hs:swapsWithSole [tg] e pos.line X.env=pure false:=by rfl)(hw:swappedStores [tg] e X.env=pure none:=by rfl)
  (h1:(assignEach [tg] X.env).map (·.2)=[assign tg X.env]:=by rfl):PS X (.Assign [tg] e pos) (tAsg te g):=by
 intro pins s σ H D I h
 refine wpAny_Assign_stores (thn (he pins s σ H _ I h) λv s1 ⟨x,H1,I1,r1,q1⟩=>?_) hs hw
 rw[h1]
 exact thn (hg pins s1 σ H1 x v _ I1 r1 q1) λ_ s2 q=>q
theorem jr{i:Nat}{x:Str}{e:Expr}{te:TE}{c8:Pos}(hN:X.N.Nodup)(hi:X.N[i]?=some x)(hx:Loc X.env.scope x)(he:PE X e te)(hs:swapsWith e (some (.Name x c8)) pos.line X.env=pure false:=by rfl)(hf:zFN X x:=by first|exact .inl rfl|exact .inr rfl|assumption):
  PS X (.Assign [.Name x c8] e pos) (tAsg te (fj i)):=by
 intro pins s σ H D I h
 refine wpAny_Assign_Name (thn (he pins s σ H _ I h) λv s1 ⟨y,H1,I1,r1,q1⟩=>?_) hs
 exact dU I1 hN hi hx r1 (λs2 I2=>⟨_,H1,I2,q1⟩) hf
def tPar(i j:Nat)(ta:TA):TS:=λD σ H=>ta σ H λvs H1=>∃ v w,vs=[v,w]/\D.nx ((σ.set i (some v)).set j (some w)) H1
theorem vn{i j:Nat}{x y:Str}{a b:Expr}{ta:TA}{px py pt:Pos}{kt k2 IL}(hc:X.calm=true)(hN:X.N.Nodup)(hi:X.N[i]?=some x)(hj:X.N[j]?=some y)(Lw:i≠j)
  (hx:X.env.scope.names.lookup x=some .local) (hy:X.env.scope.names.lookup y=some .local) (ha:PA X [a,b] ta)
  (hw:swappedStores [.Tuple [.Name x px,.Name y py] kt pt] (.Tuple [a,b] k2 IL) X.env=pure (some [x,y]))
  (hs:swapsWithSole [.Tuple [.Name x px,.Name y py] kt pt] (.Tuple [a,b] k2 IL) pos.line X.env=pure false:=by rfl):
  PS X (.Assign [.Tuple [.Name x px,.Name y py] kt pt] (.Tuple [a,b] k2 IL) pos) (tPar i j ta):=by
 intro pins s σ H D I h
 rw[exec_Assign_arm]
 refine wpAny_bind (wpAny_standAt ?_)
 rw[hs]
 refine wpAny_bind (wpAny_pure ?_)
 rw[if_neg (by decide)]
 refine wpAny_bind (Tuple_ (thn (ha _ pins s σ H _ I h) λus s1 ⟨vs,H1,I1,r1,q1⟩=>?_))
 obtain⟨v,w,e1,q1⟩:=q1
 subst e1
 obtain⟨u1,u2,rfl,rv,g8⟩:∃ u1 u2,us=[u1,u2]/\RelV v u1/\RelV w u2:=by
  cases r1 with
  |cons p q=>
   cases q with
   |cons p' q'=>
    cases q'
    exact⟨_,_,rfl,p,p'⟩
 refine wpAny_newObj_type ?_ (by show 2<=sizeLine;decide)
 have I2:Inv X pins σ H1 {s1 with heap:=s1.heap.push {cls:= .type "tuple",data:= .seq [u1,u2].toArray} }:=I1.kept (t':=s1.toks) λb o e=>Heap.get?_push_of_some _ e
 rw[hw]
 refine wpAny_bind (wpAny_pure ?_)
 show wpAny (model X.prog X.w) X.A (do rule "assign.swapped-stores";let items <- unpackItems (.ref s1.heap.objs.size) 2 none;assignInOrder [λv=>bindName X.env y v,λv=>bindName X.env x v] items.reverse;pure Flow.next) _ _ _
 refine wpAny_bind (wpAny_rule (wpAny_bind (unpackItems_tuple (items:=#[u1,u2]) (I.ok.hd hc) (IsTup.new s1.heap _) λh' i6=>?_)))
 have I3:=I2.kept (h':=h') (t':=s1.toks) λb o e=>i6 b o (E3 (Heap.lt_size e)) e
 show wpAny _ _ (assignInOrder [λv=>bindName X.env y v,λv=>bindName X.env x v] [u2,u1]>>=λ_=>pure Flow.next) _ _ _
 refine wpAny_bind (assignInOrder_cons (wpAny_bindName (dU I3 hN hj (.inl hy) g8 (λs2 I4=>?_) (.inr hy))))
 refine assignInOrder_cons (wpAny_bindName (dU I4 hN hi (.inl hx) rv (λs3 I5=>assignInOrder_nil (wpAny_pure ?_)) (.inr hx)))
 rw[List.set_comm _ _ (Ne.symm Lw)] at I5
 exact⟨_,H1,I5,q1⟩
def vo(c:TT)(tb:TS):TS:=λD σ H=>∃ W:Nat->St->Hp->Prop,(∃ m,W m σ H)/\∀ m σ H,W m σ H->
 c σ H λb H1=>if b=true then ∃ N:St->Hp->Prop,(∀ σ' H',N σ' H'->∃ m',m'<m/\W m' σ' H')/\tb {D with nx:=N,ct:=N,bk:=D.nx} σ H1 else D.nx σ H1
theorem pe{c:Expr}{body:List Stmt}{tc:TT}{tb:TS}(hp:PassesOwn (model X.prog X.w) X.A X.env X.xe)(hc:PT X c tc)(hb:PSs X body tb):PS X (.While c body [] pos) (vo tc tb):=by
 intro pins s σ H D I h
 obtain⟨W,⟨m0,w0⟩,c5⟩:=h
 refine wpAny_While (codeAny_whileLoop (λn s'=>∃ σ' H',Inv X pins σ' H' s'/\W n σ' H') ?_ m0 ⟨σ,H,I,w0⟩)
 rintro n s1 ⟨σ1,H1,I1,w1⟩
 refine wpAny_passesOwn hp (thn (hc pins s1 σ1 H1 _ I1 (c5 n σ1 H1 w1)) λb s2 ⟨H2,I2,q2⟩=>?_)
 cases b with
 |true=>
  obtain⟨N,hN,q2⟩:=q2
  rw[if_pos rfl]
  refine wpAny_passesOwn hp (thn (hb pins s2 σ1 H2 _ I2 q2) λf s3 q3=>?_)
  cases f with
  |next=>
   obtain⟨σ3,H3,I3,n3⟩:=q3
   obtain⟨m',hm,w3⟩:=hN σ3 H3 n3
   exact⟨m',hm,σ3,H3,I3,w3⟩
  |cont=>
   obtain⟨σ3,H3,I3,n3⟩:=q3
   obtain⟨m',hm,w3⟩:=hN σ3 H3 n3
   exact⟨m',hm,σ3,H3,I3,w3⟩
  |brk=>exact q3
  |ret v=>exact q3
 |false=>
  rw[if_neg E6]
  exact wpAny_execs_nil ⟨σ1,H2,I2,q2⟩
end
structure It where
 go:Nat->Hp->Prop
 yld:Nat->Hp->V->Hp->Prop
 stop:Nat->Hp->Prop
def FpOk(X:Cx)(pins:List (Addr × Obj))(H:Hp)(b:Addr):Prop:=
 H b=none/\b≠X.env.locals/\b ∉ X.fs/\(b∈X.ex\/X.s₀.heap.objs.size<=b)/\(∀ x c,X.env.cells.lookup x=some c->c≠b)/\∀ p∈X.pn++pins,p.1≠b
theorem Inv.fpOk{X:Cx}{pins:List (Addr × Obj)}{σ:St}{H H':Hp}{s:Shared}{b:Addr}(I:Inv X pins σ H s)(hb:s.heap.objs.size<=b)(hn:H' b=none):FpOk X pins H' b:=by
 refine⟨hn,FT (Fo I.lt hb),I.nofs hb,.inr (E4 I.sz hb),λx c e z=>?_,λp hp z=>?_⟩
 ·obtain⟨v,q⟩:=I.cell x c e
  exact absurd (Fo q.lt (by rw[z];exact hb)) (FR _)
 ·exact absurd (Fo (Heap.lt_size (I.pin p hp).1) (by rw[z];exact hb)) (FR _)
structure Turn(P:Program)(w:World)(K:Ex)(tg:Expr)(J:It)(fp:List Addr)(it:Addr)(tn:Nat->Heap->Prop):Prop where
 mem:it∈fp
 obj:∀ i h,tn i h->∀ b∈fp,∃ o,h.get? b=some o/\∀ v,o.data≠.cell v
 keep:∀ i h h',tn i h->(∀ b∈fp,∀ o,h.get? b=some o->h'.get? b=some o)->tn i h'
 item:∀ (X:Cx),X.prog=P->X.w=w->X.K=K->X.calm=true->∀ (i:Nat) (pins:List (Addr × Obj)) (s:Shared) (σ:St) (H:Hp) (E:Value->Shared->Prop),Inv X pins σ H s->(∀ b∈fp,FpOk X pins H b)->tn i s.heap->J.go i H->
  wpAny (model P w) X.A (pyNext (.ref it)) (λr s1=>∃ u,r=some u/\
   wpAny (model P w) X.A (letOwnedTupleGo tg (.ref it) u) (λ_ s2=>∃ x H',Inv X pins σ H' s2/\RelV x u/\J.yld i H x H'/\tn (i+1) s2.heap/\∀ b∈fp,H' b=none) E s1) E s
 done:∀ (X:Cx),X.prog=P->X.w=w->X.K=K->X.calm=true->∀ (i:Nat) (pins:List (Addr × Obj)) (s:Shared) (σ:St) (H:Hp) (E:Value->Shared->Prop),Inv X pins σ H s->(∀ b∈fp,FpOk X pins H b)->tn i s.heap->J.stop i H->
  wpAny (model P w) X.A (pyNext (.ref it)) (λr s1=>r=none/\Inv X pins σ H s1) E s
 self:∀ (A:Around) (i:Nat) (s:Shared) (Q:Value->Shared->Prop) (E:Value->Shared->Prop),tn i s.heap->Q (.ref it) s->wpAny (model P w) A (pyIter (.ref it)) Q E s
abbrev TI:=St->Hp->(It->Hp->Prop)->Prop
def PIE(X:Cx)(pins:List (Addr × Obj))(σ:St)(tg:Expr)(R:It->Hp->Prop)(KU:Value)(s2:Shared):Prop:=
 ∃ (it:Addr) (fp:List Addr) (tn:Nat->Heap->Prop) (J:It) (H':Hp),KU= .ref it/\Inv X pins σ H' s2/\Turn X.prog X.w X.K tg J fp it tn/\tn 0 s2.heap/\(∀ b∈fp,FpOk X pins H' b)/\R J H'
def PI(X:Cx)(tg iter:Expr)(wi:TI):Prop:=
 ∀ (pins:List (Addr × Obj)) (s:Shared) (σ:St) (H:Hp) (R:It->Hp->Prop),Inv X pins σ H s->wi σ H R->
  wpAny (model X.prog X.w) X.A (eval iter X.env) (λv s1=>wpAny (model X.prog X.w) X.A (pyIter v) (PIE X pins σ tg R) X.xe s1) X.xe s
theorem js{M:Model}{A:Around}{E:Value->Shared->Prop}{s:Shared}{tg:Expr}{it:Addr}{u:Value}{o:Obj}{n:String}{vs:Array Value}{Q:Unit->Shared->Prop}(ho:s.heap.get? it=some o)(hc:o.cls= .type n)(hd:o.data= .fields vs)
    (hn:["enumerate","zip","dict_itemiterator","dict_reverseitemiterator","odict_iterator","itertools.zip_longest","itertools.pairwise"].contains n=false) (hQ:Q () s):wpAny M A (letOwnedTupleGo tg (.ref it) u) Q E s:=by
  unfold letOwnedTupleGo
  cases tg<;>first
    |exact wpAny_pure hQ
    |(cases u<;>first
        |exact wpAny_pure hQ
        | (refine wpAny_bind (wpAny_load ho ?_)
           rw[hc,hd]
           show wpAny M A (if(["enumerate","zip","dict_itemiterator","dict_reverseitemiterator","odict_iterator","itertools.zip_longest","itertools.pairwise"].contains n && vs[0]?==some (rawInt _))=true then _ else _) Q E s
           rw[if_neg (by intro h;rw[hn,Bool.false_and] at h;cases h)]
           exact wpAny_pure hQ))
def Itl(K:Ex)(a:Addr):It:=
 ⟨λi H=>∃ xs x,SqL K H a xs/\xs[i]?=some x,λi H x H'=>H'=H/\∀ xs,SqL K H a xs->xs[i]?=some x,λi H=>∃ xs,SqL K H a xs/\xs.length<=i⟩
def Itr(lo:Int)(n:Nat):It:=⟨λi _=>i<n,λi H x H'=>H'=H/\x= .int (lo+i),λi _=>n<=i⟩
theorem vp{P:Program}{w:World}{K:Ex}{tg:Expr}(a it:Addr):Turn P w K tg (Itl K a) [it] it (λi h=>h.IsListIter it a i) where
 mem:=by simp
 obj:=λi h st b hb=>by
  have e:b=it:=by simpa using hb
  subst e
  obtain⟨o,e,c,d⟩:=st
  exact⟨o,e,λv z=>by rw[d] at z;cases z⟩
 keep:=λi h h' st k=>st.at λo e=>k it (by simp) o e
 item:=by
  intro X hP hw hK hc i pins s σ H E I hf st hg
  subst hP hw hK
  obtain⟨xs,x,hq,hx⟩:=hg
  obtain⟨its,rv,p,hz⟩:=I.list hq
  obtain⟨u,hu,ru⟩:=rv.get hx
  obtain⟨f0,f1,f2,f3,f4,f5⟩:=hf it (by simp)
  refine wpAny_pyNext_list_item st p.isList (x:=u) (by simpa using hu) λh' st' sb=>?_
  have I1:Inv X pins σ H {s with heap:=h'}:=I.turned (t':=s.toks) (λb o hb e=>(sb.2 b hb).trans e) f0 f1 f3 f4 f5
  obtain⟨o,e,c,d⟩:=id st'
  exact⟨u,rfl,js (s:={s with heap:=h'}) e c d (by decide) ⟨x,H,I1,ru,⟨rfl,λys hy=>by rw[I.list_inj hy hq];exact hx⟩,st',λb hb=>(hf b hb).1⟩⟩
 done:=by
  intro X hP hw hK hc i pins s σ H E I hf st hg
  subst hP hw hK
  obtain⟨xs,hq,hx⟩:=hg
  obtain⟨its,rv,p,hz⟩:=I.list hq
  obtain⟨f0,f1,f2,f3,f4,f5⟩:=hf it (by simp)
  have hl:=rv.length
  exact wpAny_pyNext_list_end (I.ok.hd hc) st p.isList (by simp;lia) λh' eb=>⟨rfl,I.turned (t':=s.toks) (λb o hb e=>eb b o hb e) f0 f1 f3 f4 f5⟩
 self:=λ_ _ _ _ _ st h=>wpAny_pyIter_listiter st h
theorem vq{P:Program}{w:World}{K:Ex}{tg:Expr}(it:Addr)(lo:Int)(n:Nat):Turn P w K tg (Itr lo n) [it] it (λi h=>IsRangeIter h it (lo+(i:Nat)*1) ((n:Int) - (i:Nat)) 1) where
 mem:=by simp
 obj:=λi h st b hb=>by
  have e:b=it:=by simpa using hb
  subst e
  exact⟨_,st,λv z=>by
   have z':Data.fields _=Data.cell v:=z
   cases z'⟩
 keep:=λi h h' st k=>k it (by simp) _ st
 item:=by
  intro X hP hw hK hc i pins s σ H E I hf st hg
  subst hP hw hK
  obtain⟨f0,f1,f2,f3,f4,f5⟩:=hf it (by simp)
  have W:=Walks.range (prog:=X.prog) (w:=X.w) (I.ok.hd hc) it lo 1 n
  refine W.item i s _ _ hg st λv h' tk hv st' kk=>?_
  obtain⟨t,rfl⟩:=hv
  have I1:Inv X pins σ H {s with heap:=h',toks:=tk}:=I.turned (λb o hb e=>kk b o (by simpa using hb) e) f0 f1 f3 f4 f5
  refine⟨_,rfl,js (s:={s with heap:=h',toks:=tk}) (n:="range_iterator") st' rfl rfl (by decide) ⟨.int (lo+i),H,I1,⟨t,?_⟩,⟨rfl,rfl⟩,st',λb hb=>(hf b hb).1⟩⟩
  rw[Int.mul_one]
 done:=by
  intro X hP hw hK hc i pins s σ H E I hf st hg
  subst hP hw hK
  obtain⟨f0,f1,f2,f3,f4,f5⟩:=hf it (by simp)
  exact wpAny_pyNext_range_end (I.ok.hd hc) st (by have:n<=i:=hg;lia) λh' eb=>⟨rfl,I.turned (t':=s.toks) (λb o hb e=>eb b o hb e) f0 f1 f3 f4 f5⟩
 self:=λ_ _ _ _ _ st h=>wpAny_pyIter_rangeiter st h
section
variable {X:Cx}{tg:Expr}
def pf(K:Ex)(tl:TE):TI:=λσ H R=>tl σ H λx H1=>∃ a,x= .ref a/\(∃ xs,SqL K H1 a xs)/\R (Itl K a) H1
theorem jt{l:Expr}{tl:TE}(hl:PE X l tl):PI X tg l (pf X.K tl):=by
 intro pins s σ H R I h
 refine thn (hl pins s σ H _ I h) λv s1 ⟨x,H1,I1,r1,q1⟩=>?_
 obtain⟨a,e,⟨xs,hq⟩,q⟩:=q1
 subst e
 cases r1
 obtain⟨its,rv,p,hz⟩:=I1.list hq
 refine wpAny_pyIter_list p.isList ?_
 refine⟨s1.heap.objs.size,[s1.heap.objs.size],_,_,H1,rfl,I1.kept (t':=s1.toks) λb o e=>Heap.get?_push_of_some _ e,vp a _,⟨_,Heap.get?_push_size _ rfl,rfl,rfl⟩,λb hb=>?_,q⟩
 have e:b=s1.heap.objs.size:=by simpa using hb
 subst e
 exact I1.fpOk (ER _) (I1.hok.fresh (ER _))
theorem ph{pins:List (Addr × Obj)}{σ:St}{H:Hp}{s:Shared}{R:It->Hp->Prop}{E:Value->Shared->Prop}{lo hi:Int}{t u v:Tok}{tk:Nat}(I:Inv X pins σ H s)(h1: -(2 ^ 62)<=lo)(h2:lo<2 ^ 62)(h3: -(2 ^ 62)<=hi)(h4:hi<2 ^ 62)
  (q:R (Itr lo (hi - lo).toNat) H):wpAny (model X.prog X.w) X.A (pyIter (.ref s.heap.objs.size)) (PIE X pins σ tg R) E {s with heap:=s.heap.push {cls:= .type "range",data:= .fields #[.int lo t,.int hi u,.int 1 v]},toks:=tk}:=by
 refine wpAny_pyIter_range (IsRange.new ..) (small_one h1 h2 h3 h4) ?_
 have I1:Inv X pins σ H {s with heap:=s.heap.push {cls:= .type "range",data:= .fields #[.int lo t,.int hi u,.int 1 v]},toks:=tk}:=I.kept λb o e=>Heap.get?_push_of_some _ e
 refine⟨(s.heap.push {cls:= .type "range",data:= .fields #[.int lo t,.int hi u,.int 1 v]}).objs.size,[(s.heap.push {cls:= .type "range",data:= .fields #[.int lo t,.int hi u,.int 1 v]}).objs.size],_,_,H,rfl,
  I1.kept (t':=tk) λb o e=>Heap.get?_push_of_some _ e,vq _ lo (hi - lo).toNat,?_,λb hb=>?_,q⟩
 ·have e1:lo+((0:Nat):Int)*1=lo:=by simp
  have e2:(((hi - lo).toNat:Nat):Int) - ((0:Nat):Int)=Builtin.Range.rangeSize lo hi 1:=by rw[rangeSize_one];split<;>lia
  show IsRangeIter _ _ (lo+((0:Nat):Int)*1) ((((hi - lo).toNat:Nat):Int) - ((0:Nat):Int)) 1
  rw[e1,e2]
  exact Heap.get?_push_size _ rfl
 ·have e:b=(s.heap.push {cls:= .type "range",data:= .fields #[.int lo t,.int hi u,.int 1 v]}).objs.size:=by simpa using hb
  subst e
  exact I1.fpOk (ER _) (I1.hok.fresh (ER _))
def pi(ta:TA):TI:=λσ H R=>ta σ H λvs H1=>∃ j:Int,vs=[.int j]/\-(2 ^ 62)<=j/\j<2 ^ 62/\R (Itr 0 j.toNat) H1
def pj(ta:TA):TI:=λσ H R=>ta σ H λvs H1=>∃ i j:Int,vs=[.int i,.int j]/\(-(2 ^ 62)<=i/\i<2 ^ 62/\-(2 ^ 62)<=j/\j<2 ^ 62)/\R (Itr i (j - i).toNat) H1
theorem fV{a:Expr}{ta:TA}{p pos:Pos}(hg:Gl X "range")(hm:X.mg "range"=none)(ha:PA X [a] ta)(hs:starEach [a] X.env=[(false,eval a X.env)]:=by rfl):PI X tg (.Call (.Name "range" p) [a] [] pos) (pi ta):=by
 intro pins s σ H R I h
 refine Call_ (dv I hg hm boot_range (PyProof.Rows.callWith_type1 (thn (ha pos pins s σ H _ I h) λus s1 ⟨vs,H1,I1,r1,q1⟩=>?_) hs rfl))
 obtain⟨j,e,q1,q2,q⟩:=q1
 subst e
 cases r1 with
 |cons r rr=>
  cases rr
  obtain⟨t,rfl⟩:=r
  exact call_range_1 (ph I1 (by lia) (by lia) q1 q2 (by simpa using q))
theorem pk{a b:Expr}{ta:TA}{p pos:Pos}(hg:Gl X "range")(hm:X.mg "range"=none)(ha:PA X [a,b] ta)(hs:starEach [a,b] X.env=[(false,eval a X.env),(false,eval b X.env)]:=by rfl)(m5:starEach [b] X.env=[(false,eval b X.env)]:=by rfl):
  PI X tg (.Call (.Name "range" p) [a,b] [] pos) (pj ta):=by
 intro pins s σ H R I h
 refine Call_ (dv I hg hm boot_range (PyProof.Rows.callWith_type1 (thn (ha pos pins s σ H _ I h) λus s1 ⟨vs,H1,I1,r1,q1⟩=>?_) (by rw[hs,m5]) (by rw[m5];rfl)))
 obtain⟨i,j,e,⟨q1,q2,q3,q4⟩,q⟩:=q1
 subst e
 cases r1 with
 |cons r rr=>
  cases rr with
  |cons r' rr=>
   cases rr
   obtain⟨t,rfl⟩:=r
   obtain⟨t',rfl⟩:=r'
   exact call_range_2 (ph I1 q1 q2 q3 q4 q)
def tFor(wi:TI)(g:TG)(tb:TS):TS:=λD σ H=>wi σ H λJ H1=>∃ W:Nat->Nat->St->Hp->Prop,(∃ m,W 0 m σ H1)/\∀ i m σ H,W i m σ H->
 (J.stop i H/\D.nx σ H)\/(J.go i H/\∃ N:St->Hp->Prop,(∀ σ' H',N σ' H'->∃ m',m'<m/\W (i+1) m' σ' H')/\∀ x H',J.yld i H x H'->g x σ H' λσ2 H2=>tb {D with nx:=N,ct:=N,bk:=D.nx} σ2 H2)
def fW(fp:List Addr)(h:Heap):List (Addr × Obj):=fp.filterMap λb=>(h.get? b).map λo=>(b,o)
theorem cr{fp:List Addr}{h:Heap}{b:Addr}{o:Obj}(hb:b∈fp)(e:h.get? b=some o):(b,o)∈fW fp h:=Hq.mpr ⟨b,hb,by rw[e];rfl⟩
theorem vt{fp:List Addr}{h:Heap}{p:Addr × Obj}(hp:p∈fW fp h):p.1∈fp/\h.get? p.1=some p.2:=by
 obtain⟨b,hb,e⟩:=Hq.mp hp
 cases q:h.get? b with
 |none=>rw[q] at e;cases e
 |some o=>
  rw[q] at e
  have e':(b,o)=p:=Option.some.inj e
  subst e'
  exact⟨hb,q⟩
theorem Inv.pinned{pins:List (Addr × Obj)}{σ:St}{H:Hp}{s:Shared}{fp:List Addr}(I:Inv X pins σ H s)(hf:∀ b∈fp,FpOk X pins H b)(ho:∀ b∈fp,∃ o,s.heap.get? b=some o/\∀ v,o.data≠.cell v):Inv X (pins++fW fp s.heap) σ H s:=
 I.pins_of λp hp=>(Fk.mp hp).elim (λz=>I.pin p (E7 _ z)) λz=>by
  obtain⟨hb,e⟩:=vt z
  obtain⟨f0,f1,f2,_⟩:=hf p.1 hb
  obtain⟨o,e',d⟩:=ho p.1 hb
  rw[e] at e';cases e'
  exact⟨e,f0,f1,f2,d⟩
theorem Inv.unpinned{pins pl:List (Addr × Obj)}{σ:St}{H:Hp}{s:Shared}(I:Inv X (pins++pl) σ H s):Inv X pins σ H s:=I.pins_of λp hp=>I.pin p (E7 _ (FJ _ hp))
theorem cO{iter:Expr}{body:List Stmt}{wi:TI}{g:TG}{tb:TS}{pos:Pos}(hp:PassesOwn (model X.prog X.w) X.A X.env X.xe)(hc:X.calm=true)(hi:PI X tg iter wi)(hg:PG X tg g)(hb:PSs X body tb)
  (hs:∀ x,foldedSetIterable iter X.env x=pure x:=by intro _;rfl):PS X (.For tg iter body [] pos) (tFor wi g tb):=by
 intro pins s σ H D I h
 refine wpAny_For (thn (hi pins s σ H _ I h) λv s1 h1=>thn h1 λKU s2 h2=>?_) hs
 obtain⟨it,fp,tn,J,H2,e,I2,T,IM,f2,W,⟨m0,w0⟩,c5⟩:=h2
 subst e
 -- JS ND true of p7 IN z6 through p7 p_
 have g9:∀ {H':Hp},(∀ b∈fp,H' b=none)->∀ b∈fp,FpOk X pins H' b:=λhn b hb=>⟨hn b hb,(f2 b hb).2⟩
 refine codeAny_forLoop_any (λn s'=>∃ i σ' H',Inv X pins σ' H' s'/\tn i s'.heap/\(∀ b∈fp,H' b=none)/\W i n σ' H') ?_ m0 ⟨0,σ,H2,I2,IM,λb hb=>(f2 b hb).1,w0⟩
 rintro n s3 ⟨i,σ3,H3,I3,Iy,NE,w3⟩
 rcases c5 i n σ3 H3 w3 with⟨stop,qn⟩|⟨go,N,hN,step⟩
 ·refine wpAny_passesOwn hp (thn (T.done X rfl rfl rfl hc i pins s3 σ3 H3 X.xe I3 (g9 NE) Iy stop) λr s4 ⟨hr,I4⟩=>?_)
  subst hr
  exact wpAny_execs_nil ⟨σ3,H3,I4,qn⟩
 ·refine wpAny_passesOwn hp (thn (T.item X rfl rfl rfl hc i pins s3 σ3 H3 X.xe I3 (g9 NE) Iy go) λr s4 ⟨u,hr,h4⟩=>?_)
  subst hr
  refine wpAny_passesOwn hp (thn h4 λ_ s5 ⟨x,H5,I5,r5,y5,m8,JT⟩=>?_)
  have OA:=I5.pinned (g9 JT) (T.obj _ _ m8)
  refine wpAny_passesOwn hp (thn (hg _ s5 σ3 H5 x u _ OA r5 (step x H5 y5)) λ_ s6 ⟨σ6,H6,I6,q6⟩=>?_)
  refine wpAny_passesOwn hp (thn (hb _ s6 σ6 H6 _ I6 q6) λf s7 q7=>?_)
  have again:∀ {σ7:St} {H7:Hp},Inv X (pins++fW fp s5.heap) σ7 H7 s7->N σ7 H7->∃ m,m<n/\∃ i σ' H',Inv X pins σ' H' s7/\tn i s7.heap/\(∀ b∈fp,H' b=none)/\W i m σ' H':=λ{σ7 H7} I7 n7=>by
   obtain⟨m',hm,w7⟩:=hN σ7 H7 n7
   refine⟨m',hm,i+1,σ7,H7,I7.unpinned,T.keep _ _ _ m8 λb hb o e=>(I7.pin (b,o) (E7 _ (E7 _ (cr hb e)))).1,λb hb=>?_,w7⟩
   obtain⟨o,e,d⟩:=T.obj _ _ m8 b hb
   exact(I7.pin (b,o) (E7 _ (E7 _ (cr hb e)))).2.1
  cases f with
  |next=>obtain⟨σ7,H7,I7,n7⟩:=q7;exact again I7 n7
  |cont=>obtain⟨σ7,H7,I7,n7⟩:=q7;exact again I7 n7
  |brk=>obtain⟨σ7,H7,I7,q7⟩:=q7;exact⟨σ7,H7,I7.unpinned,q7⟩
  |ret v=>obtain⟨x7,σ7,H7,I7,r7,q7⟩:=q7;exact⟨x7,σ7,H7,I7.unpinned,r7,q7⟩
end
theorem pp{K:Ex}{a:Addr}{xs:List V}{g:TG}{tb:TS}{D:Ends}{σ:St}{H:Hp}(Pv:Nat->St->Hp->Prop)(h0:Pv 0 σ H)(hl:∀ i σ H,i<=xs.length->Pv i σ H->SqL K H a xs)
  (hs:∀ i x σ H,xs[i]?=some x->Pv i σ H->g x σ H λσ2 H2=>tb {D with nx:=Pv (i+1),ct:=Pv (i+1),bk:=D.nx} σ2 H2) (hd:∀ σ H,Pv xs.length σ H->D.nx σ H):
  ∃ W:Nat->Nat->St->Hp->Prop,(∃ m,W 0 m σ H)/\∀ i m σ H,W i m σ H->
   ((Itl K a).stop i H/\D.nx σ H)\/((Itl K a).go i H/\∃ N:St->Hp->Prop,(∀ σ' H',N σ' H'->∃ m',m'<m/\W (i+1) m' σ' H')/\∀ x H',(Itl K a).yld i H x H'->g x σ H' λσ2 H2=>tb {D with nx:=N,ct:=N,bk:=D.nx} σ2 H2):=by
 refine⟨λi m σ H=>m=xs.length - i/\i<=xs.length/\Pv i σ H,⟨xs.length,by simp,Fp _,h0⟩,?_⟩
 rintro i m σ H ⟨rfl,hi,p⟩
 have q:=hl i σ H hi p
 by_cases gV:i<xs.length
 ·refine .inr ⟨⟨xs,xs[i],q,by simp[gV]⟩,Pv (i+1),λσ' H' p'=>⟨xs.length - (i+1),by lia,rfl,gV,p'⟩,λx H' y=>?_⟩
  obtain⟨e,y⟩:=y
  subst e
  exact hs i x σ _ (y xs q) p
 ·have e:i=xs.length:=by lia
  subst e
  exact .inl ⟨⟨xs,q,ER _⟩,hd σ H p⟩
theorem ju{lo:Int}{n:Nat}{g:TG}{tb:TS}{D:Ends}{σ:St}{H:Hp}(Pv:Nat->St->Hp->Prop)(h0:Pv 0 σ H)
  (hs:∀ i σ H,i<n->Pv i σ H->g (.int (lo+i)) σ H λσ2 H2=>tb {D with nx:=Pv (i+1),ct:=Pv (i+1),bk:=D.nx} σ2 H2) (hd:∀ σ H,Pv n σ H->D.nx σ H):
  ∃ W:Nat->Nat->St->Hp->Prop,(∃ m,W 0 m σ H)/\∀ i m σ H,W i m σ H->
   ((Itr lo n).stop i H/\D.nx σ H)\/((Itr lo n).go i H/\∃ N:St->Hp->Prop,(∀ σ' H',N σ' H'->∃ m',m'<m/\W (i+1) m' σ' H')/\∀ x H',(Itr lo n).yld i H x H'->g x σ H' λσ2 H2=>tb {D with nx:=N,ct:=N,bk:=D.nx} σ2 H2):=by
 refine⟨λi m σ H=>m=n - i/\i<=n/\Pv i σ H,⟨n,by simp,Fp _,h0⟩,?_⟩
 rintro i m σ H ⟨rfl,hi,p⟩
 by_cases gV:i<n
 ·refine .inr ⟨gV,Pv (i+1),λσ' H' p'=>⟨n - (i+1),by lia,rfl,gV,p'⟩,λx H' y=>?_⟩
  obtain⟨e,y⟩:=y
  subst e y
  exact hs i σ _ gV p
 ·have e:i=n:=by lia
  subst e
  exact .inl ⟨ER _,hd σ H p⟩
abbrev R2:=V->V->Hp->VK->Prop
def OpR(X:Cx)(f:Value->Value->Sem Value)(r:R2):Prop:=
 ∀ (pins:List (Addr × Obj)) (s:Shared) (σ:St) (H:Hp) (x y:V) (v u:Value) (Q:VK),Inv X pins σ H s->RelV x v->RelV y u->r x y H Q->
  wpAny (model X.prog X.w) X.A (f v u) (EP X pins σ Q) X.xe s
def UnR(X:Cx)(f:Value->Sem Value)(r:V->Hp->VK->Prop):Prop:=
 ∀ (pins:List (Addr × Obj)) (s:Shared) (σ:St) (H:Hp) (x:V) (v:Value) (Q:VK),Inv X pins σ H s->RelV x v->r x H Q->
  wpAny (model X.prog X.w) X.A (f v) (EP X pins σ Q) X.xe s
def bw(X:Cx)(f:Value)(r:List V->Hp->VK->Prop):Prop:=
 ∀ (pins:List (Addr × Obj)) (s:Shared) (σ:St) (H:Hp) (xs:List V) (us:List Value) (Q:VK),Inv X pins σ H s->Vals xs us->r xs H Q->
  wpAny (model X.prog X.w) X.A (call f us) (EP X pins σ Q) X.xe s
def TruR(X:Cx)(r:V->Hp->(Bool->Hp->Prop)->Prop):Prop:=
 ∀ (pins:List (Addr × Obj)) (s:Shared) (σ:St) (H:Hp) (x:V) (v:Value) (Q:Bool->Hp->Prop),Inv X pins σ H s->RelV x v->r x H Q->
  wpAny (model X.prog X.w) X.A (truthy v) (TP X pins σ Q) X.xe s
def tOp(r:R2)(ta tb:TE):TE:=λσ H Q=>ta σ H λx H1=>tb σ H1 λy H2=>r x y H2 Q
def tUn(r:V->Hp->VK->Prop)(ta:TE):TE:=λσ H Q=>ta σ H λx H1=>r x H1 Q
def rI(C:Int->Int->Prop)(g:Int->Int->V):R2:=λx y H Q=>∃ i j,x= .int i/\y= .int j/\C i j/\Q (g i j) H
def rI0(g:Int->Int->V):R2:=λx y H Q=>∃ i j,x= .int i/\y= .int j/\Q (g i j) H
def rU(g:Int->V):V->Hp->VK->Prop:=λx H Q=>∃ i,x= .int i/\Q (g i) H
section
variable {X:Cx}{a b c:Expr}{ta tb tc:TE}{pos:Pos}
theorem binT(ha:PE X a ta)(hb:PE X b tb){pins:List (Addr × Obj)}{s:Shared}{σ:St}{H:Hp}{R:V->V->Hp->Prop}(I:Inv X pins σ H s)
  (h:ta σ H λx H1=>tb σ H1 λy H2=>R x y H2) {Q:Value->Shared->Prop} {f:Value->Value->Sem Value}
  (hf:∀ v u s2 x y H2,Inv X pins σ H2 s2->RelV x v->RelV y u->R x y H2->wpAny (model X.prog X.w) X.A (f v u) Q X.xe s2):
  wpAny (model X.prog X.w) X.A (eval a X.env) (λv s₁=>wpAny (model X.prog X.w) X.A (eval b X.env) (λu s₂=>wpAny (model X.prog X.w) X.A (f v u) Q X.xe s₂) X.xe s₁) X.xe s:=by
 refine thn (ha pins s σ H _ I h) λv s1 ⟨x,H1,I1,r1,q1⟩=>?_
 refine thn (hb pins s1 σ H1 _ I1 q1) λu s2 ⟨y,H2,I2,r2,q2⟩=>?_
 exact hf v u s2 x y H2 I2 r1 r2 q2
theorem pq{op:Operator}{r:R2}(ho:OpR X (binaryOp op) r)(ha:PE X a ta)(hb:PE X b tb):PE X (.BinOp a op b pos) (tOp r ta tb):=by
 intro pins s σ H Q I h
 exact wpAny_BinOp (binT ha hb I h λv u s2 x y H2 I2 rx ry q=>ho pins s2 σ H2 x y v u Q I2 rx ry q)
theorem vw{op:UnaryOp}{r:V->Hp->VK->Prop}(ho:UnR X (unaryOp op) r)(ha:PE X a ta):PE X (.UnaryOp op a pos) (tUn r ta):=by
 intro pins s σ H Q I h
 exact UnaryOp_ (thn (ha pins s σ H _ I h) λv s1 ⟨x,H1,I1,r1,q1⟩=>ho pins s1 σ H1 x v Q I1 r1 q1)
theorem opI{f:Value->Value->Sem Value}{C:Int->Int->Prop}{g:Int->Int->Int}
  (rule:∀ (i j:Int) (t u:Tok) (s:Shared) (Q:Value->Shared->Prop) (E:Value->Shared->Prop),C i j->Q (.int (g i j) s.toks) {s with toks:=s.toks+1}->wpAny (model X.prog X.w) X.A (f (.int i t) (.int j u)) Q E s):
  OpR X f (rI C λi j=> .int (g i j)):=by
 intro pins s σ H x y v u Q I rx ry h
 obtain⟨i,j,rfl,rfl,hc,q⟩:=h
 obtain⟨t,rfl⟩:=rx
 obtain⟨t',rfl⟩:=ry
 exact rule i j t t' s _ _ hc ⟨.int (g i j),H,I.tok _,⟨_,rfl⟩,q⟩
theorem opI0{f:Value->Value->Sem Value}{g:Int->Int->Int}
  (rule:∀ (i j:Int) (t u:Tok) (s:Shared) (Q:Value->Shared->Prop) (E:Value->Shared->Prop),Q (.int (g i j) s.toks) {s with toks:=s.toks+1}->wpAny (model X.prog X.w) X.A (f (.int i t) (.int j u)) Q E s):
  OpR X f (rI0 λi j=> .int (g i j)):=by
 intro pins s σ H x y v u Q I rx ry h
 obtain⟨i,j,rfl,rfl,q⟩:=h
 obtain⟨t,rfl⟩:=rx
 obtain⟨t',rfl⟩:=ry
 exact rule i j t t' s _ _ ⟨.int (g i j),H,I.tok _,⟨_,rfl⟩,q⟩
theorem opB0{f:Value->Value->Sem Value}{g:Int->Int->Bool}
  (rule:∀ (i j:Int) (t u:Tok) (s:Shared) (Q:Value->Shared->Prop) (E:Value->Shared->Prop),Q (.bool (g i j)) s->wpAny (model X.prog X.w) X.A (f (.int i t) (.int j u)) Q E s):
  OpR X f (rI0 λi j=> .bl (g i j)):=by
 intro pins s σ H x y v u Q I rx ry h
 obtain⟨i,j,rfl,rfl,q⟩:=h
 obtain⟨t,rfl⟩:=rx
 obtain⟨t',rfl⟩:=ry
 exact rule i j t t' s _ _ ⟨.bl (g i j),H,I,rfl,q⟩
def CDiv(i j:Int):Prop:=0<j/\j<1073741824
def pr(i j:Int):Prop:=j≠0/\j.natAbs<1073741824
def CPow(i j:Int):Prop:=0<=j/\j<=1000000/\i.natAbs<2 ^ 64
def CMul(i j:Int):Prop:=(-(2 ^ 64)<i/\i<2 ^ 64)\/(-(2 ^ 64)<j/\j<2 ^ 64)
theorem CMul.ok{i j:Int}(h:CMul i j):IntMulOk i j:=by
 rcases h with⟨h1,h2⟩|⟨h1,h2⟩
 ·exact .of_left (intBits_le_64 h1 h2)
 ·exact .of_right (intBits_le_64 h1 h2)
theorem vx:OpR X (binaryOp .Add) (rI0 λi j=> .int (i+j)):=opI0 λ_ _ _ _ _ _ _ q=>add_int q
theorem pv:OpR X (binaryOp .Sub) (rI0 λi j=> .int (i - j)):=opI0 λ_ _ _ _ _ _ _ q=>sub_int q
theorem vy:OpR X (binaryOp .Mult) (rI CMul λi j=> .int (i*j)):=opI λ_ _ _ _ _ _ _ hc q=>mul_int q hc.ok
theorem vz:OpR X (binaryOp .FloorDiv) (rI CDiv λi j=> .int (i / j)):=opI λi j _ _ _ _ _ hc q=>by
 have h1:(0:Int)<j:=hc.1
 have h2:j<1073741824:=hc.2
 exact floordiv_int (by lia) (by rw[Int.fdiv_eq_ediv_of_nonneg i (by lia)];exact q) (.inl (PyProof.noPylong_small (by lia)))
theorem vA:OpR X (binaryOp .FloorDiv) (rI pr λi j=> .int (i.fdiv j)):=opI λ_ _ _ _ _ _ _ hc q=>floordiv_int hc.1 q (.inl (PyProof.noPylong_small hc.2))
theorem vB:OpR X (binaryOp .Mod) (rI (λ_ j=>0<j) λi j=> .int (i % j)):=opI λi j _ _ _ _ _ hc q=>by
 have h1:(0:Int)<j:=hc
 exact mod_int' (by lia) (by rw[Int.fmod_eq_emod_of_nonneg i (by lia)];exact q)
theorem vC:OpR X (binaryOp .Mod) (rI (λ_ j=>j≠0) λi j=> .int (i.fmod j)):=opI λ_ _ _ _ _ _ _ hc q=>mod_int' hc q
theorem vD:OpR X (binaryOp .Pow) (rI CPow λi j=> .int (i ^ j.toNat)):=opI λ_ _ _ _ _ _ _ hc q=>pow_int_small hc.1 hc.2.1 hc.2.2 q
theorem unI{f:Value->Sem Value}{g:Int->Int}
  (rule:∀ (i:Int) (t:Tok) (s:Shared) (Q:Value->Shared->Prop) (E:Value->Shared->Prop),Q (.int (g i) s.toks) {s with toks:=s.toks+1}->wpAny (model X.prog X.w) X.A (f (.int i t)) Q E s):
  UnR X f (rU λi=> .int (g i)):=by
 intro pins s σ H x v Q I rx h
 obtain⟨i,rfl,q⟩:=h
 obtain⟨t,rfl⟩:=rx
 exact rule i t s _ _ ⟨.int (g i),H,I.tok _,⟨_,rfl⟩,q⟩
theorem vE:UnR X (unaryOp .USub) (rU λi=> .int (-i)):=unI λ_ _ _ _ _ q=>neg_int q
end
def scal:V->V->Bool
 | .non,.non=>true| .non,.int _=>true| .int _,.non=>true| .non,.bl _=>true| .bl _,.non=>true| .non,.str _=>true| .str _,.non=>true
 | .int _,.int _=>true| .bl _,.bl _=>true| .str _,.str _=>true| .byt _,.byt _=>true
 | .int _,.str _=>true| .str _,.int _=>true| .bl _,.str _=>true| .str _,.bl _=>true
 |_,_=>false
def rEq:R2:=λx y H Q=>scal x y=true/\Q (.bl (decide (x=y))) H
def rNe:R2:=λx y H Q=>scal x y=true/\Q (.bl (!decide (x=y))) H
theorem pw{i j:Int}:decide (V.int i=V.int j)=(i==j):=by
 rw[Gy]
 simp
theorem pz{i j:Bool}:decide (V.bl i=V.bl j)=(i==j):=by
 rw[Gy]
 simp
theorem pA{i j:Str}:decide (V.str i=V.str j)=(i==j):=by
 rw[Gy]
 simp
theorem pB{i j:Array UInt8}:decide (V.byt i=V.byt j)=(i.toList==j.toList):=by
 rw[Gy]
 cases i
 cases j
 simp
section
variable {X:Cx}{a b c:Expr}{ta tb tc:TE}{pos:Pos}
theorem aO{pins:List (Addr × Obj)}{σ:St}{H:Hp}{s:Shared}{Q:VK}{k k':Bool}(I:Inv X pins σ H s)(q:Q (.bl k) H)(e:k=k'):EP X pins σ Q (.bool k') s:=by
 subst e
 exact⟨.bl k,H,I,rfl,q⟩
theorem jv:OpR X (compareOp .Eq) rEq:=by
 intro pins s σ H x y v u Q I rx ry h
 obtain⟨hs,q⟩:=h
 cases x with
 |non=>
  cases rx
  cases y with
  |non=>cases ry;exact PySem.EqNone.eq_none_none (aO I q (by simp))
  |bl j=>cases ry;exact PySem.EqNone.eq_none_bool (aO I q (by simp))
  |int j=>obtain⟨t',rfl⟩:=ry;exact PySem.EqNone.eq_none_int (aO I q (by simp))
  |str j=>obtain⟨t',rfl⟩:=ry;exact PySem.EqNone.eq_none_str (aO I q (by simp))
  |_=>exact absurd (show false=true from hs) E6
 |bl i=>
  cases rx
  cases y with
  |non=>cases ry;exact PySem.EqNone.eq_bool_none (aO I q (by simp))
  |bl j=>cases ry;exact eq_bool (aO I q pz)
  |str j=>obtain⟨t',rfl⟩:=ry;exact PySem.EqMixed.eq_bool_str (aO I q (by simp))
  |_=>exact absurd (show false=true from hs) E6
 |int i=>
  obtain⟨t,rfl⟩:=rx
  cases y with
  |non=>cases ry;exact PySem.EqNone.eq_int_none (aO I q (by simp))
  |int j=>obtain⟨t',rfl⟩:=ry;exact eq_int (aO I q pw)
  |str j=>obtain⟨t',rfl⟩:=ry;exact PySem.EqMixed.eq_int_str (aO I q (by simp))
  |_=>exact absurd (show false=true from hs) E6
 |str i=>
  obtain⟨t,rfl⟩:=rx
  cases y with
  |non=>cases ry;exact PySem.EqNone.eq_str_none (aO I q (by simp))
  |bl j=>cases ry;exact PySem.EqMixed.eq_str_bool (aO I q (by simp))
  |int j=>obtain⟨t',rfl⟩:=ry;exact PySem.EqMixed.eq_str_int (aO I q (by simp))
  |str j=>obtain⟨t',rfl⟩:=ry;exact eq_str (aO I q pA)
  |_=>exact absurd (show false=true from hs) E6
 |byt i=>
  obtain⟨t,rfl⟩:=rx
  cases y with
  |byt j=>obtain⟨t',rfl⟩:=ry;exact eq_bytes (aO I q pB)
  |_=>exact absurd (show false=true from hs) E6
 |_=>cases y<;>exact absurd (show false=true from hs) E6
theorem vF:OpR X (compareOp .NotEq) rNe:=by
 intro pins s σ H x y v u Q I rx ry h
 obtain⟨hs,q⟩:=h
 cases x with
 |non=>
  cases rx
  cases y with
  |non=>cases ry;exact PySem.EqNone.ne_none_none (aO I q (by simp))
  |bl j=>cases ry;exact PySem.EqNone.ne_none_bool (aO I q (by simp))
  |int j=>obtain⟨t',rfl⟩:=ry;exact PySem.EqNone.ne_none_int (aO I q (by simp))
  |str j=>obtain⟨t',rfl⟩:=ry;exact PySem.EqNone.ne_none_str (aO I q (by simp))
  |_=>exact absurd (show false=true from hs) E6
 |bl i=>
  cases rx
  cases y with
  |non=>cases ry;exact PySem.EqNone.ne_bool_none (aO I q (by simp))
  |bl j=>cases ry;exact ne_bool (aO I q (congrArg not pz))
  |str j=>obtain⟨t',rfl⟩:=ry;exact PySem.EqMixed.ne_bool_str (aO I q (by simp))
  |_=>exact absurd (show false=true from hs) E6
 |int i=>
  obtain⟨t,rfl⟩:=rx
  cases y with
  |non=>cases ry;exact PySem.EqNone.ne_int_none (aO I q (by simp))
  |int j=>obtain⟨t',rfl⟩:=ry;exact ne_int (aO I q (congrArg not pw))
  |str j=>obtain⟨t',rfl⟩:=ry;exact PySem.EqMixed.ne_int_str (aO I q (by simp))
  |_=>exact absurd (show false=true from hs) E6
 |str i=>
  obtain⟨t,rfl⟩:=rx
  cases y with
  |non=>cases ry;exact PySem.EqNone.ne_str_none (aO I q (by simp))
  |bl j=>cases ry;exact PySem.EqMixed.ne_str_bool (aO I q (by simp))
  |int j=>obtain⟨t',rfl⟩:=ry;exact PySem.EqMixed.ne_str_int (aO I q (by simp))
  |str j=>obtain⟨t',rfl⟩:=ry;exact ne_str (aO I q (congrArg not pA))
  |_=>exact absurd (show false=true from hs) E6
 |byt i=>
  obtain⟨t,rfl⟩:=rx
  cases y with
  |byt j=>obtain⟨t',rfl⟩:=ry;exact ne_bytes (aO I q (congrArg not pB))
  |_=>exact absurd (show false=true from hs) E6
 |_=>cases y<;>exact absurd (show false=true from hs) E6
theorem jw:OpR X (compareOp .Lt) (rI0 λi j=> .bl (decide (i<j))):=opB0 λ_ _ _ _ _ _ _ q=>lt_int q
theorem pC:OpR X (compareOp .LtE) (rI0 λi j=> .bl (decide (i<=j))):=opB0 λ_ _ _ _ _ _ _ q=>le_int q
theorem vG:OpR X (compareOp .Gt) (rI0 λi j=> .bl (decide (j<i))):=opB0 λ_ _ _ _ _ _ _ q=>gt_int q
theorem vH:OpR X (compareOp .GtE) (rI0 λi j=> .bl (decide (j<=i))):=opB0 λ_ _ _ _ _ _ _ q=>ge_int q
theorem pD:OpR X (compareOp .Is) (λx y H Q=>y= .non/\Q (.bl (decide (x= .non))) H):=by
 intro pins s σ H x y v u Q I rx ry h
 obtain⟨rfl,q⟩:=h
 cases ry
 refine is_none_gen (aO I q ?_)
 cases x<;>first
  |(cases rx;rfl)
  |(obtain⟨t,rfl⟩:=rx;rfl)
theorem vI:OpR X (compareOp .IsNot) (λx y H Q=>y= .non/\Q (.bl (!decide (x= .non))) H):=by
 intro pins s σ H x y v u Q I rx ry h
 obtain⟨rfl,q⟩:=h
 cases ry
 refine isnot_none_gen (aO I q ?_)
 cases x<;>first
  |(cases rx;rfl)
  |(obtain⟨t,rfl⟩:=rx;rfl)
theorem OpR.or{f:Value->Value->Sem Value}{r r':R2}(h:OpR X f r)(h':OpR X f r'):OpR X f (λx y H Q=>r x y H Q\/r' x y H Q):=by
 intro pins s σ H x y v u Q I rx ry q
 rcases q with q|q
 ·exact h pins s σ H x y v u Q I rx ry q
 ·exact h' pins s σ H x y v u Q I rx ry q
theorem nomark(b:Expr){op:CmpOp}(h:op≠.In:=by decide)(h2:op≠.NotIn:=by decide):behindInMarks op b=false:=by
 have e1:(op==CmpOp.In)=false:=by cases op<;>first|rfl|exact absurd rfl h
 have e2:(op==CmpOp.NotIn)=false:=by cases op<;>first|rfl|exact absurd rfl h2
 cases b<;>simp[behindInMarks,e1,e2]
theorem vJ{op:CmpOp}{r:R2}(ho:OpR X (compareOp op) r)(ha:PE X a ta)(hb:PE X b tb)(hm:behindInMarks op b=false):PE X (.Compare a [op] [b] pos) (tOp r ta tb):=by
 intro pins s σ H Q I h
 exact wpAny_Compare1 (binT ha hb I h λv u s2 x y H2 I2 rx ry q=>ho pins s2 σ H2 x y v u Q I2 rx ry q) hm
def pE(t:TE):TT:=λσ H Q=>t σ H λx H'=>∃ k,x= .bl k/\Q k H'
theorem pF{op:CmpOp}{r:R2}(ho:OpR X (compareOp op) r)(ha:PE X a ta)(hb:PE X b tb)(hm:behindInMarks op b=false):PT X (.Compare a [op] [b] pos) (pE (tOp r ta tb)):=by
 intro pins s σ H Q I h
 refine wpAny_isTrue_Compare1 (thn (ha pins s σ H _ I h) λv s1 ⟨x,H1,I1,r1,q1⟩=>thn (hb pins s1 σ H1 _ I1 q1) λu s2 ⟨y,H2,I2,r2,q2⟩=>
  thn (ho pins s2 σ H2 x y v u _ I2 r1 r2 q2) λc s3 ⟨z,H3,I3,r3,k,e,q3⟩=>?_) hm
 subst e
 cases r3
 exact wpAny_truthy_bool ⟨H3,I3,q3⟩
def vK(r r':R2)(ta tb tc:TE):TE:=λσ H Q=>ta σ H λx H1=>tb σ H1 λy H2=>r x y H2 λz H3=>∃ k,z= .bl k/\
 (if k=true then tc σ H3 λw' H4=>r' y w' H4 Q else Q (.bl false) H3)
theorem vL{op IP:CmpOp}{r r':R2}(ho:OpR X (compareOp op) r)(u9:OpR X (compareOp IP) r')(ha:PE X a ta)(hb:PE X b tb)(hc:PE X c tc)
  (hm:lastMarks [op,IP] [b,c]=false:=by with_unfolding_all rfl):PT X (.Compare a [op,IP] [b,c] pos) (pE (vK r r' ta tb tc)):=by
 intro pins s σ H Q I h
 refine isTrue_chain (thn (ha pins s σ H _ I h) λv s1 ⟨x,H1,I1,r1,q1⟩=>test_link (thn (hb pins s1 σ H1 _ I1 q1) λu s2 ⟨y,H2,I2,r2,q2⟩=>
  thn (ho pins s2 σ H2 x y v u _ I2 r1 r2 q2) λd s3 ⟨z,H3,I3,r3,k,e,q3⟩=>?_)) hm
 subst e
 cases r3
 refine wpAny_truthy_bool ?_
 cases k with
 |false=>
  obtain⟨k',e',q'⟩:=q3
  cases e'
  exact ite_ff ⟨H3,I3,q'⟩
 |true=>
  refine ite_tt (test_last (thn (hc pins s3 σ H3 _ I3 q3) λw' s4 ⟨z',H4,I4,r4,q4⟩=>thn (u9 pins s4 σ H4 y z' u w' _ I4 r2 r4 q4) λd' s5 ⟨z2,H5,I5,r5,k2,e2,q5⟩=>?_))
  subst e2
  cases r5
  exact wpAny_truthy_bool ⟨H5,I5,q5⟩
def TruV(K:Ex)(x:V)(H:Hp)(k:Bool):Prop:=
 match x with
 | .non=>k=false
 | .bl b=>k=b
 | .int i=>k=(i !=0)
 | .str y=>y.length<=sizeLine/\k=((y.length:Int) !=0)
 | .byt y=>y.size<=sizeLine/\k=((y.size:Int) !=0)
 | .ref p=>(∃ xs,SqL K H p xs/\k=!xs.isEmpty)\/(∃ xs,SqT K H p xs/\k=!xs.isEmpty)\/∃ a8,H p=some (.dK a8)/\k=!a8.isEmpty
 |_=>False
theorem vM{κ:Type}{a8:List (κ × V)}{vs:List (κ × Value)}(r:KV a8 vs):(!vs.isEmpty)=!a8.isEmpty:=by
 cases r<;>rfl
theorem isEmpty_of{xs:List V}{its:List Value}(r:Vals xs its):(!its.toArray.isEmpty)=!xs.isEmpty:=by
 cases r<;>simp
theorem line63:(sizeLine:Nat)<2 ^ 63:=by rw[sizeLine_eq];decide
theorem vN:TruR X (λx H Q=>∃ k,TruV X.K x H k/\Q k H):=by
 intro pins s σ H x v Q I rx h
 obtain⟨k,e,q⟩:=h
 have hl:=line63
 have hs:sizeLine=16777216:=sizeLine_eq
 cases x with
 |non=>
  cases rx
  have e':k=false:=e
  subst e'
  exact truthy_none ⟨H,I,q⟩
 |bl b=>
  cases rx
  have e':k=b:=e
  subst e'
  exact wpAny_truthy_bool ⟨H,I,q⟩
 |int i=>
  obtain⟨t,rfl⟩:=rx
  have e':k=(i !=0):=e
  subst e'
  exact PySem.P.truthy_int ⟨H,I,q⟩
 |str y=>
  obtain⟨t,rfl⟩:=rx
  obtain⟨hy,e'⟩:y.length<=sizeLine/\k=((y.length:Int) !=0):=e
  subst e'
  exact PySem.P.truthy_str (by lia) ⟨H,I.tok _,q⟩
 |byt y=>
  obtain⟨t,rfl⟩:=rx
  obtain⟨hy,e'⟩:y.size<=sizeLine/\k=((y.size:Int) !=0):=e
  subst e'
  exact truthy_bytes (by lia) ⟨H,I.tok _,q⟩
 |ref p=>
  cases rx
  have e':(∃ xs,SqL X.K H p xs/\k=!xs.isEmpty)\/(∃ xs,SqT X.K H p xs/\k=!xs.isEmpty)\/∃ a8,H p=some (.dK a8)/\k=!a8.isEmpty:=e
  rcases e' with⟨xs,hx,e'⟩|⟨xs,hx,e'⟩|⟨a8,hx,e'⟩
  ·subst e'
   obtain⟨its,r,pl,hz⟩:=I.list hx
   have b7:=r.length
   exact wpAny_truthy_list pl.isList (by simp only[E5];lia) ⟨H,I.tok _,by rw[isEmpty_of r];exact q⟩
  ·subst e'
   obtain⟨its,r,pl,hz⟩:=I.tuple hx
   have b7:=r.length
   exact truthy_tuple pl (by simp only[E5];lia) ⟨H,I.tok _,by rw[isEmpty_of r];exact q⟩
  ·subst e'
   obtain⟨hz,hS,vs,r,m⟩:a8.length<=sizeLine/\(p==sysModules)=false/\∃ vs,KV a8 vs/\s.heap.DictOf (bC X.prog X.w) p vs:=I.hok p _ hx
   have b7:a8.length=vs.length:=Paired.length r
   exact wpAny_truthy_dict hS m (by lia) ⟨H,I.tok _,by rw[vM r];exact q⟩
 |_=>exact(show False from e).elim
theorem vO(ha:PE X a ta)(he:∀ g7,isTrue a X.env g7=(do let v <- g7;standAt a.pos;holding [v] (truthy v))):
  PT X a (λσ H Q=>ta σ H λx H'=>∃ k,TruV X.K x H' k/\Q k H'):=by
 intro pins s σ H Q I h
 exact isTrue_plain (thn (ha pins s σ H _ I h) λv s1 ⟨x,H1,I1,r1,q1⟩=>vN pins s1 σ H1 x v Q I1 r1 q1) (he _)
theorem vP:OpR X (binaryOp .Add) (λx y H Q=>∃ i j,x= .str i/\y= .str j/\i.length+j.length<=sizeLine/\Q (.str (i++j)) H):=by
 intro pins s σ H x y v u Q I rx ry h
 obtain⟨i,j,rfl,rfl,hz,q⟩:=h
 obtain⟨t,rfl⟩:=rx
 obtain⟨t',rfl⟩:=ry
 exact add_str (λt' tk=>⟨.str (i++j),H,I.tok _,⟨_,rfl⟩,q⟩) hz
theorem bD{x:V}{us:List Value}(r:Vals [x] us):∃ u,us=[u]/\RelV x u:=by
 cases r with
 |cons r1 r2=>cases r2;exact⟨_,rfl,r1⟩
theorem fq{x y:V}{us:List Value}(r:Vals [x,y] us):∃ u w',us=[u,w']/\RelV x u/\RelV y w':=by
 cases r with
 |cons r1 r2=>
  cases r2 with
  |cons r3 r4=>cases r4;exact⟨_,_,rfl,r1,r3⟩
theorem vQ:bw X (.builtin "abs") (λxs H Q=>∃ i,xs=[.int i]/\Q (.int (if i<0 then -i else i)) H):=by
 intro pins s σ H xs us Q I r h
 obtain⟨i,rfl,q⟩:=h
 obtain⟨u,rfl,t,rfl⟩:=bD r
 exact call_abs_int λu tk=>⟨.int (if i<0 then -i else i),H,I.tok _,⟨_,rfl⟩,q⟩
theorem vR(hc:X.calm=true):bw X (.builtin "max") (λxs H Q=>∃ i j,xs=[.int i,.int j]/\Q (.int (if j>i then j else i)) H):=by
 intro pins s σ H xs us Q I r h
 obtain⟨i,j,rfl,q⟩:=h
 obtain⟨u,w',rfl,⟨t,rfl⟩,⟨t',rfl⟩⟩:=fq r
 refine max_two_ints (I.ok.hd hc) λh' tk k=>⟨_,H,I.kept k,?_,q⟩
 by_cases hj:j>i
 ·rw[if_pos hj,if_pos hj];exact⟨_,rfl⟩
 ·rw[if_neg hj,if_neg hj];exact⟨_,rfl⟩
theorem vS(hc:X.calm=true):bw X (.builtin "min") (λxs H Q=>∃ i j,xs=[.int i,.int j]/\Q (.int (if j<i then j else i)) H):=by
 intro pins s σ H xs us Q I r h
 obtain⟨i,j,rfl,q⟩:=h
 obtain⟨u,w',rfl,⟨t,rfl⟩,⟨t',rfl⟩⟩:=fq r
 refine min_two_ints (I.ok.hd hc) λh' tk k=>⟨_,H,I.kept k,?_,q⟩
 by_cases hj:j<i
 ·rw[if_pos hj,if_pos hj];exact⟨_,rfl⟩
 ·rw[if_neg hj,if_neg hj];exact⟨_,rfl⟩
theorem vT:bw X (.type "int") (λxs H Q=>(∃ i,xs=[.int i]/\Q (.int i) H)\/∃ k,xs=[.bl k]/\Q (.int (if k then 1 else 0)) H):=by
 intro pins s σ H xs us Q I r h
 rcases h with⟨i,rfl,q⟩|⟨k,rfl,q⟩
 ·obtain⟨u,rfl,t,rfl⟩:=bD r
  exact call_int_int ⟨.int i,H,I,⟨_,rfl⟩,q⟩
 ·obtain⟨u,rfl,r1⟩:=bD r
  cases r1
  exact call_int_bool ⟨.int (if k then 1 else 0),H,I.tok _,⟨_,rfl⟩,q⟩
theorem vU:bw X (.type "str") (λxs H Q=>∃ i,xs=[.int i]/\i.natAbs.log2<1920/\Q (.str (toString i)) H):=by
 intro pins s σ H xs us Q I r h
 obtain⟨i,rfl,hz,q⟩:=h
 obtain⟨u,rfl,t,rfl⟩:=bD r
 exact PySem.P.str_of_int hz ⟨.str _,H,I.tok _,⟨_,rfl⟩,q⟩
def LenV(K:Ex)(x:V)(H:Hp)(n:Nat):Prop:=
 match x with
 | .str y=>y.length<=sizeLine/\n=y.length
 | .byt y=>y.size<=sizeLine/\n=y.size
 | .ref p=>(∃ xs,SqL K H p xs/\n=xs.length)\/∃ xs,SqT K H p xs/\n=xs.length
 |_=>False
theorem jx:bw X (.builtin "len") (λxs H Q=>∃ x n,xs=[x]/\LenV X.K x H n/\Q (.int n) H):=by
 intro pins s σ H xs us Q I r h
 obtain⟨x,n,rfl,e,q⟩:=h
 obtain⟨u,rfl,rx⟩:=bD r
 have hl:=line63
 have hs:sizeLine=16777216:=sizeLine_eq
 cases x with
 |str y=>
  obtain⟨t,rfl⟩:=rx
  obtain⟨hy,e'⟩:y.length<=sizeLine/\n=y.length:=e
  subst e'
  exact len_str (by lia) ⟨.int _,H,I.tok _,⟨_,rfl⟩,q⟩
 |byt y=>
  obtain⟨t,rfl⟩:=rx
  obtain⟨hy,e'⟩:y.size<=sizeLine/\n=y.size:=e
  subst e'
  exact len_bytes (by lia) ⟨.int _,H,I.tok _,⟨_,rfl⟩,q⟩
 |ref p=>
  cases rx
  have e':(∃ xs,SqL X.K H p xs/\n=xs.length)\/∃ xs,SqT X.K H p xs/\n=xs.length:=e
  rcases e' with⟨xs,hx,e'⟩|⟨xs,hx,e'⟩
  ·subst e'
   obtain⟨its,r',pl,hz⟩:=I.list hx
   have b7:=r'.length
   exact Calls.call_len_list pl.isList (by simp only[E5];lia) ⟨.int xs.length,H,I.tok _,⟨_,by simp only[E5];rw[b7]⟩,q⟩
  ·subst e'
   obtain⟨its,r',pl,hz⟩:=I.tuple hx
   have b7:=r'.length
   exact len_tuple pl (by simp only[E5];lia) ⟨.int xs.length,H,I.tok _,⟨_,by simp only[E5];rw[b7]⟩,q⟩
 |_=>exact(show False from e).elim
end
structure ObjM(h:Heap)(x dx C:Addr)(mA:Str->Option Value):Prop where
 obj:h.get? x=some (instObj C dx)
 ns:h.Ns1 dx mA
 ne:dx≠x
theorem vV{h:Heap}{dx:Addr}{mA:Str->Option Value}(n:h.Ns1 dx mA):∃ od,h.get? dx=some od/\∀ name,lookIn name od=some (mA name):=by
 obtain⟨o,es,ep,ho,hd,hk,_,hm⟩:=n
 refine⟨o,ho,λname=>?_⟩
 have e:=hm name
 unfold nsFind findBy at e
 rw[<- Array.find?_toList] at e
 unfold lookIn
 rw[hd]
 dsimp only
 split
 ·rename_i y q
  rw[q] at e
  exact congrArg some e
 ·rename_i q
  rw[q] at e
  have a:es.toList.any (·.refKey)=false:=by
   rw[List.any_eq_false]
   intro y hy
   obtain⟨z,t,m9⟩:=hk y (Array.mem_toList_iff.mp hy)
   simp[DictEntry.refKey,m9]
  have a':¬ es.toList.any (·.refKey)=true:=by rw[a];exact E6
  rw[if_neg a']
  exact congrArg some e
theorem ObjM.look{h:Heap}{x dx C:Addr}{mA:Str->Option Value}(I:ObjM h x dx C mA):∃ od,PySem.W.InstAt h x (instObj C dx) C (some od)/\∀ name,lookIn name od=some (mA name):=
 let ⟨od,ho,hl⟩:=vV I.ns
 ⟨od,⟨I.obj,rfl,rfl,ho⟩,hl⟩
section
variable {prog:Program}{w:World}{A:Around}{E:Value->Shared->Prop}{s:Shared}{K:Ex}{x dx C f:Addr}{mA:Str->Option Value}{name:Str}{v:Value}
theorem vW{Lx:Bool}{Q:Value->Shared->Prop}(X:K.In s.heap)(I:ObjM s.heap x dx C mA)(hg:plainGet K C name=true)(hh:hasDictIn K C=true)
  (ha:EZ K (.ref C) name=some none) (hv:mA name=some v) (OB:handedIn v=true) (h:Q v {s with toks:=s.toks+1}):
  wpAny (model prog w) A (getAttr (.ref x) name Lx) Q E s:=by
 obtain⟨od,J,hl⟩:=I.look
 exact get_value X J (plainGet_of hg).1 (findObj_own hh ha rfl (by rw[hl,hv])) OB h
theorem vX{pl:Sem Bool}{Q:Value × List Value->Shared->Prop}(X:K.In s.heap)(I:ObjM s.heap x dx C mA)(hg:plainGet K C name=true)
  (hf:EZ K (.ref C) name=some (some (.ref f))) (ht:isFn K (.ref f)=true) (hv:mA name=none) (h:Q (.ref f,[.ref x]) s):
  wpAny (model prog w) A (getMethod (.ref x) name pl) Q E s:=by
 obtain⟨od,J,hl⟩:=I.look
 exact method_fn X J (plainGet_of hg).1 (plainGet_of hg).2 hf (beq_iff_eq.mp ht) (by show(lookIn name od).map (·.isSome)=some false;rw[hl,hv];rfl) h
theorem vY{ns:List Str}{Q:Unit->Shared->Prop}(X:K.In s.heap)(I:ObjM s.heap x dx C mA)
  (hs:EZ K (.ref C) "__setattr__"=some (some (.builtin "object.__setattr__"))) (hp:plainOver K C=true) (ht:takerIn K C name=some none) (hh:hasDictIn K C=true)
  (hw:PySem.Within mA ns) (g6:ns.length<=sizeLine)
  (h:∀ h',ObjM h' x dx C (λy=>if y=name then some v else mA y)->Heap.SameBut dx s.heap h'->Q () {s with heap:=h',toks:=s.toks+2}):
  wpAny (model prog w) A (setAttr (.ref x) name v) Q E s:=by
 obtain⟨od,J,hl⟩:=I.look
 refine PySem.W.set_plain X J hs (osa_open (s:={s with toks:=s.toks+1}) (r:=none) X J hp ht λb=>?_)
 obtain⟨cd,hc,f9⟩:=any_some hh
 have hx:s.heap.get? x=some ⟨.ref C,some dx,.plain,#[]⟩:=I.obj
 refine wpAny_bind (wpAny_pure (wpAny_bind (wpAny_bind (wpAny_loadPart hx (wpAny_bind (PySem.W.Looks.here (s:={s with toks:=s.toks+1}) (PySem.W.looks_clsIn X hc) ?_))))))
 rw[f9]
 refine wpAny_pure (a:=some dx) (wpAny_bind (wpAny_pure (wpAny_bind ?_)))
 refine wpAny_nsSet1 (s:={s with toks:=s.toks+1}) I.ns λh' y8 m5=>?_
 obtain⟨oD,OC,OD,Ly,Lz,LA⟩:=y8.count (PySem.Within.cons name v hw)
 refine wpAny_bind (wpAny_lookBehind Ly (by rw[Lz];exact pastItsLine_dict (E4 LA (by rw[EW];lia))) ?_)
 exact wpAny_pure (h _ ⟨(m5.2 _ (Ne.symm I.ne)).trans I.obj,y8,I.ne⟩ m5)
theorem vZ{R:Result->Shared->Prop}{vs:List Value}{kw:List (Str × Value)}(X:K.In s.heap)(hm:makesIn K C=true)
  (hi:EZ K (.ref C) "__init__"=some (some (.ref f))) (hf:PySem.W.typeIn K (.ref f)=some (.type "function"))
  (h:codeAny (model prog w) (A.under (.builtin "type.__call__" ⟨.ref C::vs,kw⟩)) (.call (.ref f) ⟨.ref (s.heap.objs.size+1)::vs,kw⟩) (InitBack (s.heap.objs.size+1) R)
   {s with heap:=(s.heap.push emptyDict).push (instObj C s.heap.objs.size)}):
  codeAny (model prog w) A (.call (.ref C) ⟨vs,kw⟩) R s:=by
 obtain⟨hh,g,d,t,os⟩:=s
 exact make_core (makes_of X hm) (PySem.W.looks_findIn X hi) (λself=>PySem.W.bind_fn X self hf) (.inl rfl) h
end
def putF(f:Str)(v:V):List (Str × V)->List (Str × V)
 |[]=>[(f,v)]
 |(g,x)::r=>if g=f then(g,v)::r else(g,x)::putF f v r
theorem pG(f g:Str)(v:V):∀ fs:List (Str × V),(putF f v fs).lookup g=if g=f then some v else fs.lookup g
 |[]=>by
  show FU g [(f,v)]=_
  by_cases h:g=f
  ·have hb:(g==f)=true:=beq_iff_eq.mpr h
   simp only[FU,hb,if_pos h]
  ·have hb:(g==f)=false:=beq_eq_false_iff_ne.mpr h
   simp only[FU,hb,if_neg h]
 |(k,x)::r=>by
  have ih:=pG f g v r
  rw[show putF f v ((k,x)::r)=(if k=f then(k,v)::r else(k,x)::putF f v r) from rfl]
  by_cases hk:k=f
  ·rw[if_pos hk]
   by_cases h:g=k
   ·have hb:(g==k)=true:=beq_iff_eq.mpr h
    simp only[FU,hb,if_pos (h.trans hk)]
   ·have hb:(g==k)=false:=beq_eq_false_iff_ne.mpr h
    simp only[FU,hb,if_neg (λe:g=f=>h (e.trans hk.symm))]
  ·rw[if_neg hk]
   by_cases h:g=k
   ·have hb:(g==k)=true:=beq_iff_eq.mpr h
    simp only[FU,hb,if_neg (λe:g=f=>hk (h.symm.trans e))]
   ·have hb:(g==k)=false:=beq_eq_false_iff_ne.mpr h
    simp only[FU,hb]
    exact ih
theorem jy(f:Str)(v:V):∀ fs:List (Str × V),f∈(putF f v fs).map (·.1)/\∀ g,g∈fs.map (·.1)->g∈(putF f v fs).map (·.1)
 |[]=>⟨by simp[putF],λg h=>by simp at h⟩
 |(k,x)::r=>by
  obtain⟨i1,i2⟩:=jy f v r
  rw[show putF f v ((k,x)::r)=(if k=f then(k,v)::r else(k,x)::putF f v r) from rfl]
  by_cases hk:k=f
  ·rw[if_pos hk]
   subst hk
   exact⟨by simp,λg h=>by simpa using h⟩
  ·rw[if_neg hk]
   refine⟨?_,λg h=>?_⟩
   ·rw[E9]
    exact EV _ i1
   ·rw[E9] at h ⊢
    rcases EU.mp h with e|e
    ·exact EU.mpr (.inl e)
    ·exact EV _ (i2 g e)
theorem pH(f:Str)(v:V):∀ fs:List (Str × V),(putF f v fs).length<=fs.length+1
 |[]=>by simp[putF]
 |(k,x)::r=>by
  have ih:=pH f v r
  rw[show putF f v ((k,x)::r)=(if k=f then(k,v)::r else(k,x)::putF f v r) from rfl]
  by_cases hk:k=f
  ·rw[if_pos hk,EW,EW];lia
  ·rw[if_neg hk,EW,EW];lia
theorem RelO.some_of{v:V}{o:Option Value}(r:RelO (some v) o):∃ u,o=some u/\RelV v u:=by
 cases o with
 |none=>exact(show False from r).elim
 |some u=>exact⟨u,rfl,r⟩
theorem RelO.none_of{o:Option Value}(r:RelO none o):o=none:=by
 cases o with
 |none=>rfl
 |some u=>exact(show False from r).elim
theorem wa{v:V}{u:Value}(r:RelV v u):handedIn u=true:=by
 cases v with
 |non=>cases(show u=Value.none from r);rfl
 |bl b=>cases(show u=Value.bool b from r);rfl
 |int i=>obtain⟨t,e⟩:=(show ∃ t,u=Value.int i t from r);cases e;rfl
 |str x=>obtain⟨t,e⟩:=(show ∃ t,u=Value.str x t from r);cases e;rfl
 |byt b=>obtain⟨t,e⟩:=(show ∃ t,u=Value.bytes b t from r);cases e;rfl
 |flt b=>obtain⟨t,e⟩:=(show ∃ t,u=Value.float b t from r);cases e;rfl
 |ref a=>cases(show u=Value.ref a from r);rfl
 |ty n=>cases(show u=Value.type n from r);rfl
section
variable {P:Program}{w:World}{H H':Hp}{h h':Heap}{a C dx:Addr}{fs p6:List (Str × V)}
theorem fX(hok:HOk P w H h)(e:H a=some (.ins C dx fs)):∃ mA,ObjM h a dx C mA/\(∀ f,RelO (fs.lookup f) (mA f))/\PySem.Within mA (fs.map (·.1))/\fs.length<=1000/\H dx=some (.own a):=by
 obtain⟨d,z,ne,ob,mA,n,r,q⟩:=(show ObjOk P w H h a (.ins C dx fs) from hok a _ e)
 exact⟨mA,⟨ob,n,ne⟩,r,q,z,d⟩
end
structure Cls(K:Ex)(C:Addr):Prop where
 pg:plainGet K C Str.empty=true
 hd:hasDictIn K C=true
 po:plainOver K C=true
 sa:EZ K (.ref C) "__setattr__"=some (some (.builtin "object.__setattr__"))
theorem Cls.get{K:Ex}{C:Addr}(c:Cls K C)(f:Str):plainGet K C f=true:=c.pg
def NoAttr(K:Ex)(C:Addr)(f:Str):Prop:=EZ K (.ref C) f=some none
theorem NoAttr.taker{K:Ex}{C:Addr}{f:Str}(n:NoAttr K C f):takerIn K C f=some none:=by
 unfold takerIn
 rw[show EZ K (.ref C) f=some none from n]
 rfl
structure Con(K:Ex)(C:Addr)(f:Str)(v:V)(u:Value):Prop where
 at_:EZ K (.ref C) f=some (some u)
 rel:RelV v u
 get:specialIn K u "__get__"=some none
 cp:PySem.W.copiedNames.contains f=false
structure Meth(K:Ex)(C:Addr)(m:Str)(f:Addr):Prop where
 at_:EZ K (.ref C) m=some (some (.ref f))
 fn:isFn K (.ref f)=true
 kp:keepIn K (.ref f)=true
section
variable {X:Cx}{pins:List (Addr × Obj)}{σ:St}{H:Hp}{s:Shared}{a C dx:Addr}{fs:List (Str × V)}{f:Str}{v:V}{A:Around}{E:Value->Shared->Prop}
theorem wc{b:Bool}{Q:Value->Shared->Prop}(I:Inv X pins σ H s)(e:H a=some (.ins C dx fs))(c:Cls X.K C)(n:NoAttr X.K C f)(l:fs.lookup f=some v)
  (h:∀ u s',Inv X pins σ H s'->RelV v u->Q u s'):wpAny (model X.prog X.w) A (getAttr (.ref a) f b) Q E s:=by
 obtain⟨mA,O,r,_,_,_⟩:=fX I.hok e
 obtain⟨u,hu,ru⟩:=RelO.some_of (v:=v) (o:=mA f) (by rw[<- l];exact r f)
 exact vW I.kIn O (c.get f) c.hd n hu (wa ru) (h u _ (I.tok _) ru)
theorem pI{m:Str}{g:Addr}{pl:Sem Bool}{Q:Value × List Value->Shared->Prop}(I:Inv X pins σ H s)(e:H a=some (.ins C dx fs))(c:Cls X.K C)(k:Meth X.K C m g)(l:fs.lookup m=none)
  (h:Q (.ref g,[.ref a]) s):wpAny (model X.prog X.w) A (getMethod (.ref a) m pl) Q E s:=by
 obtain⟨mA,O,r,_,_,_⟩:=fX I.hok e
 have hn:mA m=none:=RelO.none_of (by rw[<- l];exact r m)
 exact vX I.kIn O (c.get m) k.at_ k.fn hn h
theorem we{y:V}{u:Value}{Q:Unit->Shared->Prop}(I:Inv X pins σ H s)(e:H a=some (.ins C dx fs))(c:Cls X.K C)(n:NoAttr X.K C f)(hl:fs.length<1000)(ry:RelV y u)
  (h:∀ s',Inv X pins σ (upd H a (.ins C dx (putF f y fs))) s'->Q () s'):wpAny (model X.prog X.w) A (setAttr (.ref a) f u) Q E s:=by
 obtain⟨mA,O,r,wi,_,ho⟩:=fX I.hok e
 have hz:(fs.map (·.1)).length<=sizeLine:=by rw[E1,sizeLine_eq];lia
 refine vY I.kIn O c.sa c.po n.taker c.hd wi hz λh' O' sb=>h _ ?_
 have hd:∃ o,h'.get? dx=some o:=let ⟨o,_,_,e',_⟩:=O'.ns;⟨o,e'⟩
 refine I.write (x:=a) (e:=dx) (by rw[e];exact True.intro) (.inr ho) (λb q hb z=>(sb.2 b hb).trans z) hd ?_
 refine⟨by rw[ao O.ne];exact ho,?_,O.ne,O'.obj,_,O'.ns,λg=>?_,λg hg=>?_⟩
 ·have:=pH f y fs;lia
 ·show RelO ((putF f y fs).lookup g) (if g=f then some u else mA g)
  rw[pG]
  by_cases q:g=f
  ·rw[if_pos q,if_pos q];exact ry
  ·rw[if_neg q,if_neg q];exact r g
 ·by_cases q:g=f
  ·rw[q];exact(jy f y fs).1
  ·refine(jy f y fs).2 g (wi g λz=>hg ?_)
   show(if g=f then some u else mA g)=none
   rw[if_neg q];exact z
theorem Inv.made(I:Inv X pins σ H s):Inv X pins σ (upd (upd H s.heap.objs.size (.own (s.heap.objs.size+1))) (s.heap.objs.size+1) (.ins C s.heap.objs.size []))
  {s with heap:=(s.heap.push emptyDict).push (instObj C s.heap.objs.size)}:=by
 have e1:(s.heap.push emptyDict).get? s.heap.objs.size=some emptyDict:=Heap.get?_push_size s.heap rfl
 have e2:((s.heap.push emptyDict).push (instObj C s.heap.objs.size)).get? (s.heap.objs.size+1)=some (instObj C s.heap.objs.size):=by
  have:=Heap.get?_push_size (s.heap.push emptyDict) (o:=instObj C s.heap.objs.size) rfl
  rwa [Heap.size_push] at this
 have e3:(s.heap.push emptyDict).Ns s.heap.objs.size (λ_=>none):=⟨emptyDict,#[],_,e1,rfl,(λe he=>absurd he (by simp)),λ_=>rfl⟩
 have I1:=I.laid (a:=s.heap.objs.size) (o:= .own (s.heap.objs.size+1)) (h':=s.heap.push emptyDict) (t':=s.toks) (λb u q=>Heap.get?_push_of_some _ q) (ER _) ⟨_,e1⟩
 refine I1.laid (a:=s.heap.objs.size+1) (o:= .ins C s.heap.objs.size []) (t':=s.toks) (λb u q=>Heap.get?_push_of_some _ q) (Gz (Heap.size_push _ _)) ?_
 have ne:s.heap.objs.size≠s.heap.objs.size+1:=E3 (Hr _)
 refine⟨by rw[ao ne,az],Fp _,ne,e2,λ_=>none,(Heap.Ns1.of_empty e3).at λo q=>Heap.get?_push_of_some _ q,λ_=>True.intro,λy hy=>absurd rfl hy⟩
theorem attr_of{prog:Program}{w:World}{env:Env}{e:Expr}{f:Str}{pos:Pos}{s:Shared}{Q:Value->Shared->Prop}(hb:attributeBase e f env (eval e env)=eval e env)
  (h:wpAny (model prog w) A (eval e env) (λo s₁=>wpAny (model prog w) A (getAttr o f true) Q E s₁) E s):wpAny (model prog w) A (eval (.Attribute e f pos) env) Q E s:=
 Attribute_any_ h (by rw[arm_eval_Attribute,hb])
end
def tFld(K:Ex)(ta:TE)(f:Str):TE:=λσ H Q=>ta σ H λx H1=>∃ a C dx fs v,x= .ref a/\H1 a=some (.ins C dx fs)/\Cls K C/\NoAttr K C f/\fs.lookup f=some v/\Q v H1
def sFld(K:Ex)(ta tv:TE)(f:Str):TS:=λD σ H=>tv σ H λy H1=>ta σ H1 λx H2=>∃ a C dx fs,x= .ref a/\H2 a=some (.ins C dx fs)/\Cls K C/\NoAttr K C f/\fs.length<1000/\
 D.nx σ (upd H2 a (.ins C dx (putF f y fs)))
section
variable {X:Cx}{o e value:Expr}{f:Str}{pos c8 OE:Pos}{ta tv:TE}
theorem pJ(he:PE X e ta)(hb:attributeBase e f X.env (eval e X.env)=eval e X.env):PE X (.Attribute e f pos) (tFld X.K ta f):=by
 intro pins s σ H Q I h
 refine attr_of hb (thn (he pins s σ H _ I h) λu s1 ⟨x,H1,I1,rx,a,C,dx,fs,v,ex,ea,c,n,l,q⟩=>?_)
 subst ex
 obtain rfl:u=Value.ref a:=rx
 exact wc I1 ea c n l λu' s2 I2 ru=>⟨v,H1,I2,ru,q⟩
theorem pK(ha:PE X o ta)(hv:PE X value tv)(hs:swapsWith value (some (.Attribute o f c8)) pos.line X.env=pure false):PS X (.Assign [.Attribute o f c8] value pos) (sFld X.K ta tv f):=by
 intro pins s σ H D I h
 refine plainObj_wpAny_Assign_Attribute (thn (hv pins s σ H _ I h) λu s1 ⟨y,H1,I1,ry,q⟩=>thn (ha pins s1 σ H1 _ I1 q) λov s2 ⟨x,H2,I2,rx,a,C,dx,fs,ex,ea,c,n,l,q2⟩=>?_) hs
 subst ex
 obtain rfl:ov=Value.ref a:=rx
 exact we I2 ea c n l ry λs3 I3=>⟨σ,_,I3,q2⟩
end
section
variable {X:Cx}{pins:List (Addr × Obj)}{σ:St}{H:Hp}{s:Shared}{A:Around}{E:Value->Shared->Prop}{Q:Value->Shared->Prop}{c:Value}{b:Bool}
inductive TyOf(K:Ex)(H:Hp):V->Value->Prop where
 |non:TyOf K H .non (.type "NoneType")
 |bl (x:Bool):TyOf K H (.bl x) (.type "bool")
 |int (i:Int):TyOf K H (.int i) (.type "int")
 |str (x:Str):TyOf K H (.str x) (.type "str")
 |flt (x:UInt64):TyOf K H (.flt x) (.type "float")
 |lst {a:Addr} {xs:List V} (e:H a=some (.lst xs)):TyOf K H (.ref a) (.type "list")
 |frz {a:Addr} {o:Obj} {xs:List V} (e:H a=some (.frz o (.lst xs))):TyOf K H (.ref a) (.type "list")
 |tup {a:Addr} {xs:List V} (e:H a=some (.tup xs)):TyOf K H (.ref a) (.type "tuple")
 |dK {a:Addr} {a8:List (Key × V)} (e:H a=some (.dK a8)):TyOf K H (.ref a) (.type "dict")
 |dT {a:Addr} {a8:List (List Key × V)} (e:H a=some (.dT a8)):TyOf K H (.ref a) (.type "dict")
 |ins {a C dx:Addr} {fs:List (Str × V)} (e:H a=some (.ins C dx fs)) (cl:Cls K C) (ha:EZ K (.ref C) "__class__"=some (some (.builtin "object.__class__")))
   (hn:specialIn K (.builtin "object.__class__") "__get__"=some (some (.builtin "getset_descriptor.__get__"))) (htk:takesIn K (.builtin "object.__class__")=some true)
   (hm:F6 K C (.type "object")=some true):TyOf K H (.ref a) (.ref C)
theorem wg{x:V}{u t:Value}(I:Inv X pins σ H s)(rx:RelV x u)(ty:TyOf X.K H x t)(e:kitOne X.K t c=some b)(h:∀ tk,Q (.bool b) {s with toks:=tk}):
  wpAny (model X.prog X.w) A (call (.builtin "isinstance") [u,c]) Q E s:=by
 cases ty with
 |non=>cases(show u=Value.none from rx);exact kia_one kitx_none I.kIn True.intro e (λz=>nomatch z) h
 |bl y=>cases(show u=Value.bool y from rx);exact kia_one kitx_bool I.kIn True.intro e (λz=>nomatch z) h
 |int i=>obtain⟨t,q⟩:=(show ∃ t,u=Value.int i t from rx);cases q;exact kia_one kitx_int I.kIn True.intro e (λz=>nomatch z) h
 |str y=>obtain⟨t,q⟩:=(show ∃ t,u=Value.str y t from rx);cases q;exact kia_one kitx_str I.kIn True.intro e (λz=>nomatch z) h
 |flt y=>obtain⟨t,q⟩:=(show ∃ t,u=Value.float y t from rx);cases q;exact kia_one kitx_float I.kIn True.intro e (λz=>nomatch z) h
 |@lst a xs ea=>
  cases(show u=Value.ref a from rx)
  obtain⟨_,_,n,_,h1⟩:=(show ObjOk X.prog X.w H s.heap a (.lst xs) from I.hok a _ ea)
  exact kia_one kitx_list I.kIn ⟨_,h1,rfl⟩ e (λz=>nomatch z) h
 |@frz a ob xs ea=>
  cases(show u=Value.ref a from rx)
  obtain⟨_,_,_,n,_,h1⟩:=(show ObjOk X.prog X.w H s.heap a (.frz ob (.lst xs)) from I.hok a _ ea)
  exact kia_one kitx_list I.kIn ⟨_,h1,rfl⟩ e (λz=>nomatch z) h
 |@tup a xs ea=>
  cases(show u=Value.ref a from rx)
  obtain⟨_,_,_,p⟩:=(show ObjOk X.prog X.w H s.heap a (.tup xs) from I.hok a _ ea)
  obtain⟨o,h1,h2,_⟩:=p
  exact kia_one kitx_tuple I.kIn ⟨o,h1,h2⟩ e (λz=>nomatch z) h
 |@dK a a8 ea=>
  cases(show u=Value.ref a from rx)
  obtain⟨_,_,vs,_,p⟩:=(show ObjOk X.prog X.w H s.heap a (.dK a8) from I.hok a _ ea)
  obtain⟨o,es,ep,h1,h2,_⟩:=p
  exact kia_one kitx_dict I.kIn ⟨o,h1,h2.1⟩ e (λz=>nomatch z) h
 |@dT a a8 ea=>
  cases(show u=Value.ref a from rx)
  obtain⟨_,_,xs,_,o,es,ep,h1,h2,_⟩:=(show ObjOk X.prog X.w H s.heap a (.dT a8) from I.hok a _ ea)
  exact kia_one kitx_dict I.kIn ⟨o,h1,h2.1⟩ e (λz=>nomatch z) h
 |@ins a C dx fs ea cl ha hn htk hm=>
  cases(show u=Value.ref a from rx)
  obtain⟨mA,O,_⟩:=fX I.hok ea
  obtain⟨od,J,_⟩:=O.look
  exact kia_one (kitx_own (cl.get _) cl.hd ha hn htk hm) I.kIn J e (λz=>nomatch z) h
end
structure Room(k:Nat)(A:Around):Prop where
 hd:A.handled=none
 dp:A.depth+3*k+5<recursionLimit
 un:A.units+16*k+200<cLine
theorem Room.mono{j k:Nat}{A:Around}(r:Room k A)(h:j<=k):Room j A:=⟨r.hd,by have:=r.dp;lia,by have:=r.un;lia⟩
theorem Room.deeper{k:Nat}{A:Around}(r:Room (k+1) A)(env:Env):Room k (A.deeper env):=
 ⟨r.hd,by have:=r.dp;show A.depth+1+3*k+5<_;lia,by have:=r.un;show A.units+3+16*k+200<_;lia⟩
theorem Room.in1{k:Nat}{A:Around}(r:Room (k+1) A):Room k A.in1:=
 ⟨r.hd,by have:=r.dp;show A.depth+3*k+5<_;lia,by have:=r.un;show A.units+1+16*k+200<_;lia⟩
theorem wj{A:Around}{C:Addr}{us:List Value}{kw:List (Str × Value)}:(A.under (.builtin "type.__call__" ⟨.ref C::us,kw⟩)).depth=A.depth+1:=by
 first|rfl|simp[Around.under,Code.weight,Code.isCreation,Code.isGuard,Code.isCaller,Code.frames,Code.isFrame,guardIds]
theorem wk{A:Around}{C:Addr}{us:List Value}{kw:List (Str × Value)}:(A.under (.builtin "type.__call__" ⟨.ref C::us,kw⟩)).units=A.units+1:=by
 first|rfl|simp[Around.under,Code.cUnits,Code.frames,Code.isFrame]
theorem Room.make{k:Nat}{A:Around}(r:Room (k+1) A)(C:Addr)(us:List Value)(kw:List (Str × Value)):Room k (A.under (.builtin "type.__call__" ⟨.ref C::us,kw⟩)):=
 ⟨r.hd,by have:=r.dp;rw[wj];lia,by have:=r.un;rw[wk];lia⟩
theorem Room.depth{k:Nat}{A:Around}(r:Room k A):A.depth<recursionLimit:=by have:=r.dp;lia
theorem Room.units{k:Nat}{A:Around}(r:Room k A):A.units+64<cLine:=by have:=r.un;lia
def tNil:TA:=λ_ H Q=>Q [] H
def fY(ta:TE)(tr:TA):TA:=λσ H Q=>ta σ H λx H1=>tr σ H1 λxs H2=>Q (x::xs) H2
section
variable {X:Cx}{e:Expr}{es:List Expr}{te:TE}{t:TA}{pos:Pos}
theorem pa_nil:PA X [] tNil:=λ_ _ _ _ H Q I h=>Calls.spliced_nil ⟨[],H,I,.nil,h⟩
theorem bj(ha:PE X e te)(hr:PA X es t)(hs:zSE X e es:=by rfl):PA X (e::es) (fY te t):=by
 intro pos pins s σ H Q I h
 rw[hs]
 show wpAny _ _ (spliced ((false,eval e X.env)::backTo pos (starEach es X.env))) _ _ s
 refine Calls.spliced_cons (thn (ha pins s σ H _ I h) λu s1 ⟨x,H1,I1,r1,q1⟩=>?_)
 exact thn (hr pos pins s1 σ H1 _ I1 q1) λus s2 ⟨xs,H2,I2,r2,q2⟩=>⟨x::xs,H2,I2,.cons r1 r2,q2⟩
def tTup(t:TA):TE:=λσ H Q=>t σ H λxs H1=>xs.length<=sizeLine/\∀ p,H1 p=none->Q (.ref p) (upd H1 p (.tup xs))
def tLst(t:TA):TE:=λσ H Q=>t σ H λxs H1=>xs.length<=sizeLine/\∀ p,H1 p=none->Q (.ref p) (upd H1 p (.lst xs))
theorem pL{x1}(h:PA X es t):PE X (.Tuple es x1 pos) (tTup t):=by
 intro pins s σ H Q I hq
 refine wpAny_Tuple_spliced (thn (h pos pins s σ H _ I hq) λus s1 ⟨xs,H1,I1,r,z,q⟩=>⟨by rw[<- r.length];exact z,?_⟩)
 have hf:H1 s1.heap.objs.size=none:=I1.hok.fresh (ER _)
 refine⟨.ref s1.heap.objs.size,upd H1 s1.heap.objs.size (.tup xs),I1.laid (t':=s1.toks) (λb u e=>Heap.get?_push_of_some _ e) (ER _) ?_,rfl,q _ hf⟩
 exact⟨z,us,r,⟨_,Heap.get?_push_size _ rfl,rfl,_,rfl⟩⟩
theorem jz(h:PA X es t):PE X (.List es pos) (tLst t):=by
 intro pins s σ H Q I hq
 refine wpAny_List_spliced (thn (h pos pins s σ H _ I hq) λus s1 ⟨xs,H1,I1,r,z,q⟩=>⟨by rw[<- r.length];exact z,?_⟩)
 have hf:H1 s1.heap.objs.size=none:=I1.hok.fresh (ER _)
 refine⟨.ref s1.heap.objs.size,upd H1 s1.heap.objs.size (.lst xs),I1.laid (t':=s1.toks) (λb u e=>Heap.get?_push_of_some _ e) (ER _) ?_,rfl,q _ hf⟩
 exact⟨z,us,0,r,Heap.get?_push_size _ rfl⟩
end
abbrev Sp:=List V->Hp->VK->XK->Prop
abbrev CXT:=List Env->Hp->Shared->XK->Value->Shared->Prop
structure Env0(P:Program)(w:World)(K:Ex)(mg:Str->Option Value)(base:Heap)(A:Around)(outer:List Env)(s:Shared)(H:Hp):Prop where
 frames:A.frames=some outer
 mod:Mod K mg base
 bs:∀ b o,base.get? b=some o->s.heap.get? b=some o/\H b=none
 bsz:base.objs.size<=s.heap.objs.size
 funs:s.heap.FunFrames base outer
 frf:∀ b∈frs outer,H b=none
 hok:HOk P w H s.heap
 bare:AllBare s.gens
def CE(outer:List Env)(P:Program)(w:World)(H:Hp)(s:Shared)(Q:VK)(u:Value)(s':Shared):Prop:=
 ∃ v H',s'.os=s.os/\AllBare s'.gens/\Un (frs outer) [] H H' s.heap s'.heap/\HOk P w H' s'.heap/\RelV v u/\Q v H'
def CR(CX:CXT)(outer:List Env)(P:Program)(w:World)(H:Hp)(s:Shared)(Q:VK)(E:XK)(r:Result)(s':Shared):Prop:=
 match r with
 | .ok (.ret u)=>CE outer P w H s Q u s'
 | .ok _=>False
 | .error e=>CX outer H s E e s'
structure FnOk(P:Program)(w:World)(K:Ex)(mg:Str->Option Value)(base:Heap)(CX:CXT)(k:Nat)(f:Addr)(fd:FuncData)(ps:List Str)(sp:Sp):Prop where
 len:∀ vs H Q E,sp vs H Q E->vs.length=ps.length
 run:∀ (A:Around) (outer:List Env) (s:Shared) (H:Hp) (args:Args) (us:List Value) (vs:List V) (Q:VK) (E:XK),Room k A->Env0 P w K mg base A outer s H->BindsTo s fd args (ps.zip us)->Vals vs us->sp vs H Q E->
  codeAny (model P w) A (.call (.ref f) args) (CR CX outer P w H s Q E) s
theorem FnOk.mono{P:Program}{w:World}{K:Ex}{mg:Str->Option Value}{base:Heap}{CX:CXT}{j k:Nat}{f:Addr}{fd:FuncData}{ps:List Str}{sp:Sp}(F:FnOk P w K mg base CX j f fd ps sp)(h:j<=k):
  FnOk P w K mg base CX k f fd ps sp:=⟨F.len,λA outer s H args us vs Q E hr=>F.run A outer s H args us vs Q E (hr.mono h)⟩
theorem FnOk.imp{P:Program}{w:World}{K:Ex}{mg:Str->Option Value}{base:Heap}{CX:CXT}{k:Nat}{f:Addr}{fd:FuncData}{ps:List Str}{sp Iz:Sp}(F:FnOk P w K mg base CX k f fd ps sp)
  (h:∀ vs H Q E,Iz vs H Q E->sp vs H Q E):FnOk P w K mg base CX k f fd ps Iz:=
 ⟨λvs H Q E q=>F.len vs H Q E (h _ _ _ _ q),λA outer s H args us vs Q E hr he hb hv hs=>F.run A outer s H args us vs Q E hr he hb hv (h _ _ _ _ hs)⟩
theorem Env0.make{P:Program}{w:World}{K:Ex}{mg:Str->Option Value}{base:Heap}{A:Around}{outer:List Env}{s:Shared}{H:Hp}(e:Env0 P w K mg base A outer s H)(C:Addr)(us:List Value)(kw:List (Str × Value)):
  Env0 P w K mg base (A.under (.builtin "type.__call__" ⟨.ref C::us,kw⟩)) outer s H:=⟨by first|exact e.frames|(simpa[Around.under,Code.envs,Code.isFrame,pushEnvs] using e.frames),e.mod,e.bs,e.bsz,e.funs,e.frf,e.hok,e.bare⟩
theorem Env0.in1{P:Program}{w:World}{K:Ex}{mg:Str->Option Value}{base:Heap}{A:Around}{outer:List Env}{s:Shared}{H:Hp}(e:Env0 P w K mg base A outer s H):
  Env0 P w K mg base A.in1 outer s H:=⟨e.frames,e.mod,e.bs,e.bsz,e.funs,e.frf,e.hok,e.bare⟩
section
variable {X:Cx}{pins:List (Addr × Obj)}{σ:St}{H:Hp}{s s':Shared}
theorem Inv.env0(I:Inv X pins σ H s):Env0 X.prog X.w X.K X.mg X.base X.A X.stack s H:=
 ⟨I.ok.frames,I.ok.mod,I.bs,E4 I.ok.bsz I.sz,I.stack,I.stkFree,I.hok,I.bare⟩
theorem Inv.after{Q:VK}{u:Value}(I:Inv X pins σ H s)(h:CE X.stack X.prog X.w H s Q u s'):EP X pins σ Q u s':=by
 obtain⟨v,H',os,bare,un,hok,r,q⟩:=h
 obtain⟨hh,g,d,t,OF⟩:=s'
 obtain rfl:OF=s.os:=os
 exact⟨v,H',I.call (h':=hh) (g':=g) (d':=d) (t':=t) (ch:=[]) un hok bare (λb z=>absurd z (by simp)),r,q⟩
end
def pM(sp:Sp)(m_:List V)(E:XK)(t:TA):TE:=λσ H Q=>t σ H λvs H1=>sp (vs++m_) H1 Q E
def wl(C:Addr)(sp:Sp)(m_:List V)(E:XK)(t:TA):TE:=λσ H Q=>t σ H λvs H1=>∀ x dx,H1 x=none->H1 dx=none->dx≠x->
 sp (.ref x::(vs++m_)) (upd (upd H1 dx (.own x)) x (.ins C dx [])) (λv H2=>v= .non/\Q (.ref x) H2) E
def Binds(K:Ex)(fd:FuncData)(ps:List Str)(ds:List Value):Prop:=
 ∀ (s:Shared) (us:List Value),K.In s.heap->(us++ds).length=ps.length->BindsTo s fd ⟨us,[]⟩ (ps.zip (us++ds))
theorem Binds.all{K:Ex}{fd:FuncData}{ps:List Str}(h:∀ us:List Value,us.length=ps.length->bindArgs fd ⟨us,[]⟩=pure (ps.zip us)):Binds K fd ps []:=λs us _ hl=>by
 rw[FA] at hl ⊢
 exact .of_eq (h us hl)
def fu(CX:CXT)(X:Cx)(E:XK):Prop:=∀ (pins:List (Addr × Obj)) (σ:St) (H:Hp) (s:Shared) (e:Value) (s':Shared),Inv X pins σ H s->CX X.stack H s E e s'->X.xe e s'
section
variable {X:Cx}{CX:CXT}{k:Nat}{f C:Addr}{fd:FuncData}{ps:List Str}{sp:Sp}{m_:List V}{ds:List Value}{E:XK}{x m:Str}{p pos apos:Pos}{e o:Expr}{es:List Expr}{ta:TE}{t:TA}
theorem wm{pins:List (Addr × Obj)}{σ:St}{H:Hp}{s:Shared}{Q:VK}{us:List Value}{vs:List V}(F:FnOk X.prog X.w X.K X.mg X.base CX k f fd ps sp)(hr:Room k X.A)(hb:Binds X.K fd ps ds)(hd:Vals m_ ds)(hx:fu CX X E)
  (I:Inv X pins σ H s) (r:Vals vs us) (h:sp (vs++m_) H Q E):wpAny (model X.prog X.w) X.A (call (.ref f) us) (EP X pins σ Q) X.xe s:=by
 have r2:Vals (vs++m_) (us++ds):=r.append hd
 have hl:(us++ds).length=ps.length:=by rw[<- r2.length];exact F.len _ _ _ _ h
 refine wpAny_call (codeAny_mono (F.run X.A X.stack s H ⟨us,[]⟩ (us++ds) (vs++m_) Q E hr I.env0 (hb s us I.kIn hl) r2 h) λr s' hq=>?_)
 cases r with
 |error e=>exact hx pins σ H s e s' I hq
 |ok fl=>
  cases fl with
  |ret u=>exact I.after hq
  |next=>exact False.elim hq
  |brk=>exact False.elim hq
  |cont=>exact False.elim hq
theorem wn(F:FnOk X.prog X.w X.K X.mg X.base CX k f fd ps sp)(hr:Room k X.A)(hg:Gl X x)(hm:X.mg x=some (.ref f))(hk:keepIn X.K (.ref f)=true)(hb:Binds X.K fd ps ds)(hd:Vals m_ ds)(hx:fu CX X E)
  (ha:PA X (e::es) t) (d7:zND x:=by decide) (he:zSE X e es:=by rfl) (b_:zPL X pos es:=by rfl):
  PE X (.Call (.Name x p) (e::es) [] pos) (pM sp m_ E t):=by
 intro pins s σ H Q I h
 refine wpAny_Call_Name_kw (cF I hg hm ?_ d7)
 refine callWith_K (h₀:=X.base) I.ok.mod.kin hk (thn (ha pos pins s σ H _ I h) λus s1 ⟨vs,H1,I1,r,q⟩=>⟨I1.kIn,?_⟩) he b_
 exact wm F hr hb hd hx I1 r q
structure Mk(K:Ex)(C f:Addr):Prop where
 makes:makesIn K C=true
 init:EZ K (.ref C) "__init__"=some (some (.ref f))
 fn:isFn K (.ref f)=true
 kp:keepIn K (.ref C)=true
theorem wo{pins:List (Addr × Obj)}{σ:St}{H:Hp}{s:Shared}{Q:VK}{us:List Value}{vs:List V}(M:Mk X.K C f)(F:FnOk X.prog X.w X.K X.mg X.base CX k f fd ps sp)(hr:Room (k+1) X.A)(hb:Binds X.K fd ps ds)(hd:Vals m_ ds)
  (hx:fu CX X E) (I:Inv X pins σ H s) (r:Vals vs us)
  (h:∀ x dx,H x=none->H dx=none->dx≠x->sp (.ref x::(vs++m_)) (upd (upd H dx (.own x)) x (.ins C dx [])) (λv H2=>v= .non/\Q (.ref x) H2) E):
  wpAny (model X.prog X.w) X.A (call (.ref C) us) (EP X pins σ Q) X.xe s:=by
 have hq:=h (s.heap.objs.size+1) s.heap.objs.size (I.hok.fresh (FV _)) (I.hok.fresh (ER _)) (E3 (Hr _))
 have I2:=Inv.made (C:=C) I
 have r2:Vals (V.ref (s.heap.objs.size+1)::(vs++m_)) (Value.ref (s.heap.objs.size+1)::(us++ds)):= .cons rfl (r.append hd)
 have hl:(Value.ref (s.heap.objs.size+1)::us++ds).length=ps.length:=by
  have e:=r2.length
  rw[F.len _ _ _ _ hq] at e
  exact e.symm
 refine wpAny_call (vZ (f:=f) I.kIn M.makes M.init (beq_iff_eq.mp M.fn) (codeAny_mono (F.run _ X.stack _ _ ⟨Value.ref (s.heap.objs.size+1)::us,[]⟩ (Value.ref (s.heap.objs.size+1)::(us++ds)) _ _ E (hr.make C us [])
  (I2.env0.make C us []) (hb _ (Value.ref (s.heap.objs.size+1)::us) I2.kIn hl) r2 hq) λr s' z7=>?_))
 cases r with
 |error e=>exact hx pins σ _ _ e s' I2 z7
 |ok fl=>
  cases fl with
  |ret u=>
   obtain⟨v,H',I3,rv,ev,q3⟩:=I2.after z7
   subst ev
   exact⟨rv,⟨V.ref (s.heap.objs.size+1),H',I3,rfl,q3⟩⟩
  |next=>exact False.elim z7
  |brk=>exact False.elim z7
  |cont=>exact False.elim z7
theorem jA(M:Mk X.K C f)(F:FnOk X.prog X.w X.K X.mg X.base CX k f fd ps sp)(hr:Room (k+1) X.A)(hg:Gl X x)(hm:X.mg x=some (.ref C))(hb:Binds X.K fd ps ds)(hd:Vals m_ ds)(hx:fu CX X E)
  (ha:PA X (e::es) t) (d7:zND x:=by decide) (he:zSE X e es:=by rfl) (b_:zPL X pos es:=by rfl):
  PE X (.Call (.Name x p) (e::es) [] pos) (wl C sp m_ E t):=by
 intro pins s σ H Q I h
 refine wpAny_Call_Name_kw (cF I hg hm ?_ d7)
 refine callWith_K (h₀:=X.base) I.ok.mod.kin M.kp (thn (ha pos pins s σ H _ I h) λus s1 ⟨vs,H1,I1,r,q⟩=>⟨I1.kIn,?_⟩) he b_
 exact wo M F hr hb hd hx I1 r q
end
structure FnScope(N P:List Str)(sc:Scope):Prop where
 kind:sc.kind= .function
 co:sc.isCoroutine=false
 gen:sc.isGenerator=false
 nd:N.Nodup
 pre:N.take P.length=P
 par:∀ x∈P,sc.names.lookup x=some .local\/sc.names.lookup x=some .cell
 nofree:∀ y∈sc.names,y.2≠.free
theorem pN{kindOf:Str->Option NameKind}{x:Str}:∀ {binds:List (Str × Value)} {m:Str->Option Value},(∀ v,(x,v) ∉ binds)->bindL kindOf binds m x=m x
 |[],_,_=>rfl
 |(n,v)::r,m,h=>by
  unfold bindL
  rw[pN λw hw=>h w (EV _ hw)]
  split
  ·have:x≠n:=by rintro rfl;exact h v EY
   simp[this]
  ·rfl
theorem bindC_out{kindOf:Str->Option NameKind}{x:Str}:∀ {binds:List (Str × Value)} {m:Str->Option Value},(∀ v,(x,v) ∉ binds)->bindC kindOf binds m x=m x
 |[],_,_=>rfl
 |(n,v)::r,m,h=>by
  unfold bindC
  rw[bindC_out λw hw=>h w (EV _ hw)]
  split
  ·rfl
  ·have:x≠n:=by rintro rfl;exact h v EY
   simp[this]
theorem bindL_get{kindOf:Str->Option NameKind}{x:Str}{v:Value}:∀ {P:List Str} {vs:List Value} {i:Nat} {m:Str->Option Value},P.Nodup->P[i]?=some x->vs[i]?=some v->kindOf x=some .local->
  bindL kindOf (P.zip vs) m x=some v
 |[],_,_,_,_,h,_,_=>by simp at h
 |_::_,[],_,_,_,_,h,_=>by simp at h
 |p::P,w::vs,0,m,nd,h1,h2,hk=>by
  simp at h1 h2;subst h1;subst h2
  show bindL kindOf ((p,w)::P.zip vs) m p=_
  unfold bindL
  rw[pN λv hv=>(FK.mp nd).1 (GU hv).1,if_pos hk]
  simp
 |p::P,w::vs,i+1,m,nd,h1,h2,hk=>by
  show bindL kindOf ((p,w)::P.zip vs) m x=_
  unfold bindL
  exact bindL_get (i:=i) (FK.mp nd).2 (by simpa using h1) (by simpa using h2) hk
theorem pO{kindOf:Str->Option NameKind}{x:Str}{v:Value}:∀ {P:List Str} {vs:List Value} {i:Nat} {m:Str->Option Value},P.Nodup->P[i]?=some x->vs[i]?=some v->kindOf x≠some .local->
  bindC kindOf (P.zip vs) m x=some v
 |[],_,_,_,_,h,_,_=>by simp at h
 |_::_,[],_,_,_,_,h,_=>by simp at h
 |p::P,w::vs,0,m,nd,h1,h2,hk=>by
  simp at h1 h2;subst h1;subst h2
  show bindC kindOf ((p,w)::P.zip vs) m p=_
  unfold bindC
  rw[bindC_out λv hv=>(FK.mp nd).1 (GU hv).1,if_neg hk]
  simp
 |p::P,w::vs,i+1,m,nd,h1,h2,hk=>by
  show bindC kindOf ((p,w)::P.zip vs) m x=_
  unfold bindC
  exact pO (i:=i) (FK.mp nd).2 (by simpa using h1) (by simpa using h2) hk
def start(N:List Str)(vs:List V):St:=vs.map some++FB (N.length - vs.length) none
def cxOf(CX:CXT)(P:Program)(w:World)(K:Ex)(mg:Str->Option Value)(base:Heap)(N:List Str)(qual:Str)(scope:Scope)(f:Addr)(cd:Value)(A:Around)(outer:List Env)(s:Shared)(H:Hp)(E:XK):Cx where
 prog:=P
 w:=w
 K:=K
 mg:=mg
 base:=base
 A:=A.deeper (envOfC qual scope s.heap.objs.size f cd)
 N:=N
 s₀:=s
 H₀:=H
 env:=envOfC qual scope s.heap.objs.size f cd
 outer:=outer
 stack:=envOfC qual scope s.heap.objs.size f cd::outer
 ex:=[]
 calm:=true
 fn:=λ_=>true
 pn:=[]
 xe:=λe s'=>wpAny (model P w) (A.deeper (envOfC qual scope s.heap.objs.size f cd)) (leaving (envOfC qual scope s.heap.objs.size f cd) e) (λ_ LB=>CX outer H s E e LB) (λe' LB=>CX outer H s E e' LB) s'
theorem cell_has{sc:Scope}{n:Nat}{x:Str}(h:sc.names.lookup x=some .cell):∃ c,(cellsFrom n sc.names []).lookup x=some c:=by
 have q:=cellsFrom_some sc.names n [] (.inl h)
 exact Option.isSome_iff_exists.mp q
theorem wr{CX:CXT}{P:Program}{w:World}{K:Ex}{mg:Str->Option Value}{base:Heap}{N ps:List Str}{qual:Str}{scope:Scope}{f:Addr}{cd:Value}{A:Around}{outer:List Env}{s s1:Shared}{H:Hp}{E:XK}{us:List Value}{vs:List V}
  (S:FnScope N ps scope) (hd:A.handled=none) (e0:Env0 P w K mg base A outer s H) (hl:vs.length=ps.length) (r:Vals vs us)
  (x:InCallC s s.heap.objs.size (bindL (envOfC qual scope s.heap.objs.size f cd).kindOf (ps.zip us) λ_=>none) (cellsFrom (s.heap.objs.size+1) scope.names []) (bindC (envOfC qual scope s.heap.objs.size f cd).kindOf (ps.zip us) λ_=>none) s1):
  Inv (cxOf CX P w K mg base N qual scope f cd A outer s H E) [] (start N vs) H s1:=by
 have b_:ps.length<=N.length:=by have:=congrArg Gi S.pre;rw[GA] at this;lia
 obtain⟨h1,tk,rfl,hk⟩:=x.done
 have JU:∀ b:Addr,b ∉ (cxOf CX P w K mg base N qual scope f cd A outer s H E).ex:=λb z=>absurd (show b∈([]:List Addr) from z) (by simp)
 refine⟨⟨e0.mod,S.kind,rfl,rfl,ER _,λy z c h1 h2=>?_,λy hy=>?_,λy c _ h=>?_,λ_=>hd,Around.frames_deeper e0.frames,.inr ⟨rfl,rfl⟩,λb z=>absurd z (JU b),e0.bs,e0.bsz,λb _ _=>JU b,λb z=>absurd z (JU b),e0.funs,e0.frf⟩,
  rfl,e0.bare,Un.kept hk,⟨_,x.toInCall.ns,λi y v h1 h2 h3=>?_⟩,λy c h=>⟨_,x.cell y c h⟩,e0.hok.fresh (ER _),λy c h=>?_,λp hp=>absurd (show p∈([]:List (Addr × Obj)) from hp) (by simp),e0.hok.kept hk,?_⟩
 ·exact name_of_addr x.apart (PySem.mem_of_lookup h1) (PySem.mem_of_lookup h2)
 ·have hy:scope.names.lookup y=some .cell\/scope.names.lookup y=some .free:=hy
  rcases hy with hy|hy
  ·exact cell_has hy
  ·exact absurd rfl (S.nofree _ (PySem.mem_of_lookup hy))
 ·exact Gw (x.above y c (PySem.mem_of_lookup h))
 ·have hi:i<vs.length:=by
   unfold start at h2
   by_cases hi:i<vs.length
   ·exact hi
   ·rw[FW (by simpa using hi)] at h2
    rw[GV] at h2
    split at h2<;>cases h2
  have ha:vs[i]?=some v:=by
   unfold start at h2
   rw[FH (by simpa using hi),E8] at h2
   cases e:vs[i]? with
   |none=>rw[e] at h2;cases h2
   |some a=>rw[e] at h2;cases h2;rfl
  obtain⟨u,hu,rv⟩:=r.get ha
  have hp:ps[i]?=some y:=by
   rw[<- S.pre,Hs (by lia)];exact h1
  have NF:ps.Nodup:=by rw[<- S.pre];exact S.nd.sublist (List.take_sublist _ _)
  refine⟨u,rv,?_⟩
  rcases S.par y (GW hp) with k|k
  ·exact .inl ⟨k,bindL_get NF hp hu k⟩
  ·obtain⟨c,e⟩:=cell_has (n:=s.heap.objs.size+1) k
   refine .inr ⟨.inl k,c,e,?_⟩
   have q:=x.cell y c e
   rw[pO NF hp hu (by show scope.names.lookup y≠_;rw[k];decide)] at q
   exact q
 ·exact e0.hok.fresh (Gw (x.above y c (PySem.mem_of_lookup h)))
 ·unfold start
  show _=N.length
  rw[E2,E1,List.length_replicate]
  lia
theorem pP{CX:CXT}{P:Program}{w:World}{K:Ex}{mg:Str->Option Value}{base:Heap}{k:Nat}{f:Addr}{name qual:Str}{params:Arguments}{body:List Stmt}{scope:Scope}{dV kV doc pm cdv ct oc:Value}{an od:Option Addr}
  {osl:Array (Option Value)} {N ps:List Str} {sp:Sp} (lk:K.lookup f=some ⟨oc,od,.func (fnOf name qual params body scope dV kV doc pm an cdv ct),osl⟩) (ge:codeIn K cdv qual=true) (S:FnScope N ps scope)
  (len:∀ vs H Q E,sp vs H Q E->vs.length=ps.length)
  (a_:∀ (A:Around) (outer:List Env) (s:Shared) (H:Hp) (vs:List V) (Q:VK) (E:XK),Room k (A.deeper (envOfC qual scope s.heap.objs.size f cdv))->sp vs H Q E->
   ∃ t,PSs (cxOf CX P w K mg base N qual scope f cdv A outer s H E) body t/\t {nx:=λ_ H'=>Q .non H',rt:=Q} (start N vs) H):
  FnOk P w K mg base CX (k+1) f (fnOf name qual params body scope dV kV doc pm an cdv ct) ps sp:=by
 refine⟨len,λA outer s H args us vs Q E hr e0 hb r q8=>?_⟩
 have hl:=len _ _ _ _ q8
 have KX:K.In s.heap:=e0.mod.kin.keeps λb o e=>(e0.bs b o e).1
 have OG:s.heap.NoLimit:=e0.mod.nolimit.keeps λb o e=>(e0.bs b o e).1
 have JV:∀ y∈ps.zip us,scope.names.lookup y.1=some .local\/(scope.names.lookup y.1=some .cell/\((cellsFrom (s.heap.objs.size+1) scope.names []).lookup y.1).isSome=true):=λ⟨n,v⟩ hy=>by
  rcases S.par n (GU hy).1 with q|q
  ·exact .inl q
  ·exact .inr ⟨q,cellsFrom_some _ _ _ (.inl q)⟩
 refine codeAny_call_function hr.depth (KX _ _ lk) rfl S.co S.gen rfl (codeRec_of KX ge) (hb _ _ _ _ ?_)
 refine wpAny_newFunctionEnv_cells S.kind JV λenv he s1 x=>?_
 subst he
 refine⟨OG.keeps x.toInCall.keep,codeAny_func ?_⟩
 obtain⟨t,ht,hq⟩:=a_ A outer s H vs Q E (hr.deeper _) q8
 have I:Inv (cxOf CX P w K mg base N qual scope f cdv A outer s H E) [] (start N vs) H s1:=wr S hr.hd e0 hl r x
 refine wpAny_mono (ht [] s1 (start N vs) H _ I hq) (λfl s' hs=>?_) λe s' hs=>hs
 have d5:∀ {σ':St} {H':Hp} {v:V} {u:Value},Inv (cxOf CX P w K mg base N qual scope f cdv A outer s H E) [] σ' H' s'->RelV v u->Q v H'->CE outer P w H s Q u s':=
  λ{σ' H' v u} J rv q=>⟨v,H',J.os,J.bare,J.base,J.hok,rv,q⟩
 cases fl with
 |ret u=>
  obtain⟨v,σ',H',J,rv,q⟩:=hs
  exact d5 J rv q
 |next=>
  obtain⟨σ',H',J,q⟩:=hs
  exact d5 (v:=V.non) (u:=Value.none) J rfl q
 |brk=>
  obtain⟨_,_,_,q⟩:=hs
  exact False.elim q
 |cont=>
  obtain⟨_,_,_,q⟩:=hs
  exact False.elim q
section
variable {X:Cx}{x:Str}{p pos:Pos}{e:Expr}{es:List Expr}{t:TA}{id T:String}{r:List V->Hp->VK->Prop}
def tCB(r:List V->Hp->VK->Prop)(t:TA):TE:=λσ H Q=>t σ H λvs H1=>r vs H1 Q
theorem fZ(hc:bw X (.builtin id) r)(hg:Gl X x)(hm:X.mg x=none)(hv:bootBuiltins x=some (.builtin id))(ha:PA X (e::es) t)(hn:x≠"__name__":=by decide)(d7:zND x:=by decide)
  (he:zSE X e es:=by rfl) (b_:zPL X pos es:=by rfl):PE X (.Call (.Name x p) (e::es) [] pos) (tCB r t):=by
 intro pins s σ H Q I h
 refine wpAny_Call_Name_kw (dv I hg hm hv ?_ hn d7)
 exact PyProof.Rows.callWith_builtin1 (thn (ha pos pins s σ H _ I h) λus s1 ⟨vs,H1,I1,r1,q1⟩=>hc pins s1 σ H1 vs us Q I1 r1 q1) he b_
theorem pQ(hc:bw X (.type T) r)(hg:Gl X x)(hm:X.mg x=none)(hv:bootBuiltins x=some (.type T))(ha:PA X (e::es) t)(hn:x≠"__name__":=by decide)(d7:zND x:=by decide)
  (he:zSE X e es:=by rfl) (b_:zPL X pos es:=by rfl):PE X (.Call (.Name x p) (e::es) [] pos) (tCB r t):=by
 intro pins s σ H Q I h
 refine wpAny_Call_Name_kw (dv I hg hm hv ?_ hn d7)
 exact PyProof.Rows.callWith_type1 (thn (ha pos pins s σ H _ I h) λus s1 ⟨vs,H1,I1,r1,q1⟩=>hc pins s1 σ H1 vs us Q I1 r1 q1) he b_
end
end L2
namespace HT
open PySem PyProof.Rows
section
variable {prog:Program}{w:World}{A:Around}{E:Value->Shared->Prop}{s:Shared}
theorem cat_tup{t b:Addr}{vs ws:List Value}{Q:Value->Shared->Prop}(ht:IsTup s.heap t vs.toArray)(hb:IsTup s.heap b ws.toArray)(hv:vs≠[])
  (h1:ws=[]->Q (.ref t) s) (h2:ws≠[]->Q (.ref s.heap.objs.size) {s with heap:=s.heap.push {cls:= .type "tuple",data:= .seq (vs++ws).toArray} })
  (g6:vs.length+ws.length<=sizeLine):wpAny (model prog w) A (binaryOp .Add (.ref t) (.ref b)) Q E s:=by
 obtain⟨⟨cls,dd,data,sl⟩,ho,hc,n,hd⟩:=id ht
 obtain⟨⟨OH,NG,data2,NH⟩,KW,NI,n2,KY⟩:=id hb
 simp only at hc hd NI KY
 subst hc hd NI KY
 have e:vs.toArray++ws.toArray=(vs++ws).toArray:=by simp
 by_cases hw:ws=[]
 ·exact concat_meets ⟨_,ho,rfl⟩ ⟨_,KW,rfl⟩ noFill_tuple_add seq_tuple_add PySem.F.slot_tuple_add PySem.F.entry_tuple_add (PySem.F.args_tuple_add_2 _ _)
   (tuple_addW1 t b vs.toArray ws.toArray n n2 dd NG sl NH (by simpa using hv) (by simp[hw])) ⟨ho,KW,h1 hw⟩
 ·refine concat_meets ⟨_,ho,rfl⟩ ⟨_,KW,rfl⟩ noFill_tuple_add seq_tuple_add PySem.F.slot_tuple_add PySem.F.entry_tuple_add (PySem.F.args_tuple_add_2 _ _)
   (tuple_addW2 t b vs.toArray ws.toArray n n2 dd NG sl NH (by simpa using hv) (by simpa using hw) (by rw[E5,E5];exact g6)) ⟨ho,KW,?_⟩
  rw[e]
  exact h2 hw
def sIx(n d:Nat):Option Int->Nat
 |none=>d
 |some v=>if v<0 then(v+(n:Int)).toNat else min v.toNat n
theorem sIx_le(n d:Nat)(hd:d<=n)(o:Option Int):sIx n d o<=n:=by
 cases o with
 |none=>exact hd
 |some v=>
  show(if v<0 then(v+(n:Int)).toNat else min v.toNat n)<=n
  by_cases hv:v<0
  ·rw[if_pos hv];lia
  ·rw[if_neg hv];exact Nat.min_le_right _ _
theorem pR(v:Int)(n d:Nat):(if v<0 then max (v+(n:Int)) 0 else min v (n:Int))=((sIx n d (some v):Nat):Int):=by
 show(if v<0 then max (v+(n:Int)) 0 else min v (n:Int))=(((if v<0 then(v+(n:Int)).toNat else min v.toNat n):Nat):Int)
 by_cases hv:v<0
 ·simp only[if_pos hv];lia
 ·simp only[if_neg hv];lia
theorem wt(lo hi:Option Int)(n:Nat):Builtin.Slice.sliceAdjust lo hi 1 (n:Int)=(((sIx n 0 lo:Nat):Int),((sIx n n hi:Nat):Int)):=by
 have h1:¬ ((1:Int)<0):=by lia
 unfold Builtin.Slice.sliceAdjust
 simp only[h1,if_false]
 refine Prod.ext ?_ ?_
 ·cases lo with
  |none=>rfl
  |some v=>exact pR v n 0
 ·cases hi with
  |none=>rfl
  |some v=>exact pR v n n
theorem wu(i j:Nat):Builtin.Slice.slicePlaces (i:Int) (j:Int) 1=j - i:=by
 unfold Builtin.Slice.slicePlaces
 have h1:(1:Int)>0:=by lia
 simp only[h1,if_true,Int.ediv_one]
 split<;>lia
theorem pS{v:Value}{o:Option Int}{Q:Option Int->Shared->Prop}(p:IsPart v o)(h:Q o s):wpAny (model prog w) A (Builtin.Slice.slicePartIndex v) Q E s:=by
 cases p with
 |none=>exact slicePart_none h
 |int i t=>exact slicePart_int h
theorem wv{sl:Addr}{vl vu:Value}{lo hi:Option Int}{n:Nat}{Q:Int × Int × Nat->Shared->Prop}(hs:s.heap.IsSliceOf sl vl vu .none)(pl:IsPart vl lo)(pu:IsPart vu hi)
  (h:Q (((sIx n 0 lo:Nat):Int),1,sIx n n hi - sIx n 0 lo) s):wpAny (model prog w) A (Builtin.Slice.sliceApplied (.ref sl) (pure (n:Int))) Q E s:=by
 obtain⟨os,z8,NJ,KZ⟩:=id hs
 unfold Builtin.Slice.sliceApplied Builtin.Slice.sliceFields
 refine wpAny_bind (wpAny_bind (wpAny_field z8 KZ (x:=vl) rfl (wpAny_bind (wpAny_field z8 KZ (x:=vu) rfl (wpAny_bind (wpAny_field z8 KZ (x:= .none) rfl (wpAny_pure ?_)))))))
 refine wpAny_bind (slicePart_none ?_)
 show wpAny _ _ (if((1:Int)==0)=true then _ else _) _ _ s
 rw[if_neg (by decide)]
 refine wpAny_bind (pS pl (wpAny_bind (pS pu (wpAny_bind (wpAny_pure ?_)))))
 show wpAny _ _ (match Builtin.Slice.sliceAdjust lo hi 1 (n:Int) with|(lo,hi)=>pure (lo,(1:Int),Builtin.Slice.slicePlaces lo hi 1)) _ _ s
 rw[wt lo hi n]
 show wpAny _ _ (pure (((sIx n 0 lo:Nat):Int),(1:Int),Builtin.Slice.slicePlaces ((sIx n 0 lo:Nat):Int) ((sIx n n hi:Nat):Int) 1)) _ _ s
 rw[wu]
 exact wpAny_pure h
theorem ww(xs:Array Value)(i k:Nat):((ET k).filterMap λ(m:Nat)=>xs[((i:Int)+(m:Int)*1).toNat]?).toArray=((xs.toList.drop i).take k).toArray:=by
 have e:(λ(m:Nat)=>xs[((i:Int)+(m:Int)*1).toNat]?)=λm=>xs[i+m]?:=by
  funext m
  have:((i:Int)+(m:Int)*1).toNat=i+m:=by lia
  rw[this]
 rw[e]
 have:=pick_run xs i k
 rw[Ht] at this
 have e2:((λx=>xs[x]?) ∘ λx=>i+x)=λm=>xs[i+m]?:=rfl
 rw[e2] at this
 rw[this]
theorem getItem_tuple_cut{t sl:Addr}{items:Array Value}{vl vu:Value}{lo hi:Option Int}{Q:Value->Shared->Prop}(ht:IsTup s.heap t items)(hs:s.heap.IsSliceOf sl vl vu .none)(pl:IsPart vl lo)(pu:IsPart vu hi)
  (hw:¬ (sIx items.size 0 lo=0/\sIx items.size items.size hi=items.size))
  (h:Q (.ref s.heap.objs.size) {s with heap:=s.heap.push {cls:= .type "tuple",data:= .seq ((items.toList.drop (sIx items.size 0 lo)).take (sIx items.size items.size hi - sIx items.size 0 lo)).toArray} })
  (g6:items.size<=sizeLine):wpAny (model prog w) A (getItem (.ref t) (.ref sl)) Q E s:=by
 have g_:sizeOk (.seq ((items.toList.drop (sIx items.size 0 lo)).take (sIx items.size items.size hi - sIx items.size 0 lo)).toArray):=by
  show((items.toList.drop (sIx items.size 0 lo)).take (sIx items.size items.size hi - sIx items.size 0 lo)).toArray.size<=sizeLine
  rw[E5,GA,Gj,FS]
  lia
 have hj:sIx items.size items.size hi<=items.size:=sIx_le _ _ (ER _) hi
 obtain⟨os,z8,NJ,KZ⟩:=id hs
 have OI:s.TypeIs (.ref sl) "slice":=⟨os,z8,NJ⟩
 unfold getItem
 try with_reducible refine wpAny_holding ?_
 first|refine wpAny_bind (wpAny_pure ?_)|skip
 refine wpAny_bind (wpAny_sequenceKey ht.typeIs (by decide) ?_)
 refine wpAny_bind (wpAny_callSpecial?_slot (name:=Str.ofString "__getitem__") ht.typeIs PyProof.Rows.slot_tuple_getitem
  (wpAny_call_entry PyProof.Rows.slot_tuple_getitem ht.typeIs entry_tuple_getitem ?_ (args_tuple_getitem _ _)))
 show wpAny _ _ (Builtin.Tuple.tupleItemsOf (.ref t)>>=_) _ _ s
 refine wpAny_bind (tupleItemsOf_ ht ?_)
 refine wpAny_bind (wpAny_typeOf OI ?_)
 rw[if_pos (by decide)]
 refine wpAny_bind (wv hs pl pu ?_)
 have c_:¬ ((((sIx items.size 0 lo:Nat):Int)==0 && (1:Int)==1 && (sIx items.size items.size hi - sIx items.size 0 lo)==items.size)=true):=by
  intro q
  rw[FC,FC] at q
  have q1:((sIx items.size 0 lo:Nat):Int)=0:=eq_of_beq q.1.1
  have q2:sIx items.size items.size hi - sIx items.size 0 lo=items.size:=eq_of_beq q.2
  exact hw ⟨by lia,by lia⟩
 show wpAny _ _ (if(((sIx items.size 0 lo:Nat):Int)==0 && (1:Int)==1 && (sIx items.size items.size hi - sIx items.size 0 lo)==items.size)=true then _ else _) _ _ s
 rw[if_neg c_,ww]
 first
  |exact wpAny_bind (m:=Builtin.Tuple.tupleExact _) (wpAny_newObj_type (wpAny_pure ⟨_,rfl,wpAny_pure h⟩) g_)
  |exact wpAny_bind (m:=Builtin.Tuple.tupleExact _) (wpAny_newObj_type (wpAny_bind (wpAny_pure (wpAny_pure ⟨_,rfl,wpAny_pure h⟩))) g_)
  |exact wpAny_bind (wpAny_bind (m:=Builtin.Tuple.tupleExact _) (wpAny_newObj_type (wpAny_pure (wpAny_pure ⟨_,rfl,wpAny_pure h⟩)) g_))
  |exact wpAny_bind (wpAny_bind (m:=Builtin.Tuple.tupleExact _) (wpAny_newObj_type (wpAny_pure ⟨_,rfl,wpAny_pure h⟩) g_))
end
end HT
namespace L2
open PySem PySem.Spec PyProof.Rows
abbrev TO:=St->Hp->(Option Int->Hp->Prop)->Prop
def PO(X:Cx)(e:Option Expr)(t:TO):Prop:=
 ∀ (pins:List (Addr × Obj)) (s:Shared) (σ:St) (H:Hp) (Q:Option Int->Hp->Prop),Inv X pins σ H s->t σ H Q->
  wpAny (model X.prog X.w) X.A (evalPart e X.env) (λu s'=>∃ o H',Inv X pins σ H' s'/\IsPart u o/\Q o H') X.xe s
def wx:TO:=λ_ H Q=>Q none H
def wy(t:TE):TO:=λσ H Q=>t σ H λx H1=>∃ i,x= .int i/\Q (some i) H1
theorem intsAre_of{ns:List Int}:∀ {us:List Value},Vals (ns.map V.int) us->IntsAre us ns:=by
 induction ns with
 |nil=>intro us r;rw[FX] at r;cases r;exact .nil
 |cons n ns ih=>
  intro us r
  rw[E9] at r
  cases r with
  |cons r1 r2=>
   obtain⟨t,e⟩:=r1
   subst e
   exact .cons n t (ih r2)
section
variable {X:Cx}{e:Expr}{te:TE}{lo hi:Option Expr}{tl th:TO}{pos p2:Pos}
theorem pT:PO X none wx:=by
 intro pins s σ H Q I h
 rw[evalPart_none]
 exact wpAny_pure ⟨none,H,I,.none,h⟩
theorem pU(h:PE X e te):PO X (some e) (wy te):=by
 intro pins s σ H Q I hw
 rw[evalPart_some]
 refine thn (h pins s σ H _ I hw) λu s1 ⟨x,H1,I1,r1,q1⟩=>?_
 obtain⟨i,rfl,q⟩:=q1
 obtain⟨t,rfl⟩:=r1
 exact⟨some i,H1,I1,.int i t,q⟩
def SlR(X:Cx)(r:V->Option Int->Option Int->Hp->VK->Prop):Prop:=
 ∀ (pins:List (Addr × Obj)) (s:Shared) (σ:St) (H:Hp) (x:V) (v vl vu:Value) (lo hi:Option Int) (sl:Addr) (Q:VK),Inv X pins σ H s->RelV x v->s.heap.IsSliceOf sl vl vu .none->IsPart vl lo->IsPart vu hi->r x lo hi H Q->
  ∃ T id,typeLookup (.type T) "__getitem__"=pure (some (.builtin id))/\s.TypeIs v T/\wpAny (model X.prog X.w) X.A (getItem v (.ref sl)) (EP X pins σ Q) X.xe s
theorem SlR.or{r r':V->Option Int->Option Int->Hp->VK->Prop}(h:SlR X r)(h':SlR X r'):SlR X (λx lo hi H Q=>r x lo hi H Q\/r' x lo hi H Q):=by
 intro pins s σ H x v vl vu lo hi sl Q I rx hs pl pu q
 rcases q with q|q
 ·exact h pins s σ H x v vl vu lo hi sl Q I rx hs pl pu q
 ·exact h' pins s σ H x v vl vu lo hi sl Q I rx hs pl pu q
def tSl(r:V->Option Int->Option Int->Hp->VK->Prop)(te:TE)(tl th:TO):TE:=λσ H Q=>te σ H λx H1=>tl σ H1 λl H2=>th σ H2 λu H3=>r x l u H3 Q
theorem pV{r:V->Option Int->Option Int->Hp->VK->Prop}(hr:SlR X r)(he:PE X e te)(hl:PO X lo tl)(hu:PO X hi th):PE X (.Subscript e (.Slice lo hi none p2) pos) (tSl r te tl th):=by
 intro pins s σ H Q I h
 refine Subscript_ (thn (he pins s σ H _ I h) λv s1 ⟨x,H1,I1,r1,q1⟩=>?_)
 refine wpAny_Slice (thn (hl pins s1 σ H1 _ I1 q1) λvl s2 ⟨l,H2,I2,pl,q2⟩=>thn (hu pins s2 σ H2 _ I2 q2) λvu s3 ⟨u,H3,I3,pu,q3⟩=>?_)
 rw[evalPart_none]
 refine wpAny_pure ?_
 have I4:Inv X pins σ H3 {s3 with heap:=s3.heap.push {cls:= .type "slice",data:= .fields #[vl,vu,.none]} }:=I3.kept (t':=s3.toks) λb ob q=>Heap.get?_push_of_some _ q
 obtain⟨T,id,hT,ht,hg⟩:=hr pins {s3 with heap:=s3.heap.push {cls:= .type "slice",data:= .fields #[vl,vu,.none]} } σ H3 x v vl vu l u s3.heap.objs.size Q I4 r1 (Heap.IsSliceOf.new ..) pl pu q3
 show wpAny (model X.prog X.w) X.A (subscriptTail e (.Slice lo hi none p2) v (.ref s3.heap.objs.size)) (EP X pins σ Q) X.xe {s3 with heap:=s3.heap.push {cls:= .type "slice",data:= .fields #[vl,vu,.none]} }
 exact tail_any (ops:=[.ref s3.heap.objs.size,v]) ht hT hg (by with_unfolding_all rfl)
def cutV(xs:List V)(lo hi:Option Int):List V:=(xs.drop (HT.sIx xs.length 0 lo)).take (HT.sIx xs.length xs.length hi - HT.sIx xs.length 0 lo)
theorem pW(xs:List V)(lo hi:Option Int):(cutV xs lo hi).length<=xs.length:=by
 unfold cutV
 rw[GA,Gj]
 lia
def rSlT(K:Ex):V->Option Int->Option Int->Hp->VK->Prop:=λx lo hi H Q=>∃ a xs,x= .ref a/\SqT K H a xs/\
 ¬ (HT.sIx xs.length 0 lo=0/\HT.sIx xs.length xs.length hi=xs.length)/\∀ p,H p=none->Q (.ref p) (upd H p (.tup (cutV xs lo hi)))
theorem wz:SlR X (rSlT X.K):=by
 intro pins s σ H x v vl vu lo hi sl Q I rx hs pl pu h
 obtain⟨a,xs,rfl,hx,hw,q⟩:=h
 cases rx
 obtain⟨its,r,ht,hz⟩:=I.tuple hx
 have b7:its.toArray.size=xs.length:=by rw[E5];exact r.length.symm
 refine⟨"tuple",_,PyProof.Rows.slot_tuple_getitem.lookup,ht.typeIs,?_⟩
 refine HT.getItem_tuple_cut ht hs pl pu (by rw[b7];exact hw) ?_ (by rw[b7];exact hz)
 rw[b7]
 refine⟨.ref s.heap.objs.size,_,I.laid (t':=s.toks) (o:= .tup (cutV xs lo hi)) (λb ob q=>Heap.get?_push_of_some _ q) (ER _) ?_,rfl,q _ (I.hok.fresh (ER _))⟩
 exact⟨E4 (pW xs lo hi) hz,_,(r.drop (HT.sIx xs.length 0 lo)).take (HT.sIx xs.length xs.length hi - HT.sIx xs.length 0 lo),IsTup.new _ _⟩
def pX(K:Ex):R2:=λx y H Q=>∃ a b xs ys,x= .ref a/\y= .ref b/\SqT K H a xs/\SqT K H b ys/\xs≠[]/\xs.length+ys.length<=sizeLine/\
 (ys=[]->Q (.ref a) H)/\(ys≠[]->∀ p,H p=none->Q (.ref p) (upd H p (.tup (xs++ys))))
theorem Vals.nil_iff{xs:List V}{us:List Value}(r:Vals xs us):us=[]↔xs=[]:=by
 cases r with
 |nil=>simp
 |cons _ _=>simp
theorem wA:OpR X (binaryOp .Add) (pX X.K):=by
 intro pins s σ H x y v u Q I rx ry h
 obtain⟨a,b,xs,ys,rfl,rfl,ha,hb,hx,hz,q1,q2⟩:=h
 cases rx
 cases ry
 obtain⟨its,r1,p1,_⟩:=I.tuple ha
 obtain⟨l8,r2,p2,_⟩:=I.tuple hb
 refine HT.cat_tup p1 p2 (λz=>hx (r1.nil_iff.mp z)) (λz=>⟨.ref a,H,I,rfl,q1 (r2.nil_iff.mp z)⟩) (λz=>?_) (by rw[<- r1.length,<- r2.length];exact hz)
 refine⟨.ref s.heap.objs.size,_,I.laid (t':=s.toks) (o:= .tup (xs++ys)) (λb ob q=>Heap.get?_push_of_some _ q) (ER _) ?_,rfl,q2 (λw=>z (r2.nil_iff.mpr w)) _ (I.hok.fresh (ER _))⟩
 exact⟨by rw[E2];exact hz,_,r1.append r2,IsTup.new _ _⟩
end
def ixN(n:Nat)(i:Int):Option Nat:=if 0<=i then(if i<n then some i.toNat else none) else if -(n:Int)<=i then some (i+n).toNat else none
def atI{α:Type}(xs:List α)(i:Int):Option α:=(ixN xs.length i).bind λj=>xs[j]?
theorem pY{n:Nat}{i:Int}{j:Nat}(h:ixN n i=some j):seqIndex? i n=some j/\j<n/\-(n:Int)<=i/\i<n:=by
 unfold ixN at h
 by_cases h0:0<=i
 ·rw[if_pos h0] at h
  by_cases h1:i<n
  ·rw[if_pos h1] at h
   have e:i.toNat=j:=Option.some.inj h
   exact⟨by rw[seqIndex_of h0 h1,e],by lia,by lia,h1⟩
  ·rw[if_neg h1] at h;cases h
 ·rw[if_neg h0] at h
  by_cases h1: -(n:Int)<=i
  ·rw[if_pos h1] at h
   have e:(i+n).toNat=j:=Option.some.inj h
   exact⟨by rw[seqIndex_neg (by lia) h1,e],by lia,h1,by lia⟩
  ·rw[if_neg h1] at h;cases h
theorem atI_get{α:Type}{xs:List α}{i:Int}{v:α}(h:atI xs i=some v):∃ j,seqIndex? i xs.length=some j/\xs[j]?=some v/\j<xs.length/\-(xs.length:Int)<=i/\i<xs.length:=by
 unfold atI at h
 cases e:ixN xs.length i with
 |none=>rw[e] at h;cases h
 |some j=>
  rw[e] at h
  obtain⟨h1,h2,h3,h4⟩:=pY e
  exact⟨j,h1,h,h2,h3,h4⟩
theorem bV{α:Type}{xs:List α}{j:Nat}{v:α}(h:xs[j]?=some v):atI xs (j:Int)=some v:=by
 have hj:j<xs.length:=(Fb.mp h).1
 have e:ixN xs.length (j:Int)=some j:=by
  unfold ixN
  rw[if_pos (by lia),if_pos (by lia)];simp
 unfold atI;rw[e];exact h
def dW(b:Expr):Prop:=∀ o i,subscripted b false o i=operate [o,i] (getItem o i)
def IxR(X:Cx)(r:R2):Prop:=
 ∀ (value slice:Expr) (pins:List (Addr × Obj)) (s:Shared) (σ:St) (H:Hp) (x y:V) (v u:Value) (Q:VK),Inv X pins σ H s->RelV x v->RelV y u->r x y H Q->
  subscripted slice false v u=operate [v,u] (getItem v u)->wpAny (model X.prog X.w) X.A (subscriptTail value slice v u) (EP X pins σ Q) X.xe s
def MtR(X:Cx)(id:String)(r:V->List V->Hp->VK->Prop):Prop:=
 ∀ (pins:List (Addr × Obj)) (s:Shared) (σ:St) (H:Hp) (x:V) (xs:List V) (v:Value) (us:List Value) (Q:VK),Inv X pins σ H s->RelV x v->Vals xs us->r x xs H Q->
  wpAny (model X.prog X.w) X.A (call (.builtin id) (v::us)) (EP X pins σ Q) X.xe s
section
variable {X:Cx}{a b:Expr}{ta tb:TE}{pos:Pos}
theorem IxR.or{r r':R2}(h:IxR X r)(h':IxR X r'):IxR X (λx y H Q=>r x y H Q\/r' x y H Q):=by
 intro value slice pins s σ H x y v u Q I rx ry q hs
 rcases q with q|q
 ·exact h value slice pins s σ H x y v u Q I rx ry q hs
 ·exact h' value slice pins s σ H x y v u Q I rx ry q hs
theorem pe_ix{r:R2}(hr:IxR X r)(ha:PE X a ta)(hb:PE X b tb)(hs:dW b):PE X (.Subscript a b pos) (tOp r ta tb):=by
 intro pins s σ H Q I h
 exact Subscript_ (binT ha hb I h λv u s2 x y H2 I2 rx ry q=>hr a b pins s2 σ H2 x y v u Q I2 rx ry q (hs _ _))
def rIxL(K:Ex):R2:=λx y H Q=>∃ p xs i v,x= .ref p/\y= .int i/\SqL K H p xs/\atI xs i=some v/\Q v H
def rIxT(K:Ex):R2:=λx y H Q=>∃ p xs i v,x= .ref p/\y= .int i/\SqT K H p xs/\atI xs i=some v/\Q v H
def rIxS:R2:=λx y H Q=>∃ z i c,x= .str z/\y= .int i/\z.length<=sizeLine/\atI z.cps.toList i=some c/\Q (.str ⟨#[c]⟩) H
theorem ix_list:IxR X (rIxL X.K):=by
 intro value slice pins s σ H x y v u Q I rx ry h hs
 obtain⟨p,xs,i,z,rfl,rfl,hq,he,q⟩:=h
 cases rx
 obtain⟨t,rfl⟩:=ry
 obtain⟨its,r,pl,hz⟩:=I.list hq
 obtain⟨j,h1,h2,h3,h4,h5⟩:=atI_get he
 obtain⟨w,ew,g8⟩:=r.get h2
 have hl:=r.length
 have hn:=line63
 have d5:EP X pins σ Q w s:=⟨z,H,I,g8,q⟩
 by_cases h0:0<=i
 ·have hj:i.toNat=j:=by
   rw[seqIndex_of h0 h5] at h1
   exact Option.some.inj h1
  exact item_listR pl.isList h0 (by lia) (by rw[hj];simpa using ew) d5 hs
 ·have hj:(i+(its.toArray.size:Int)).toNat=j:=by
   rw[seqIndex_neg (by lia) h4] at h1
   rw[E5,<- hl]
   exact Option.some.inj h1
  exact subscriptTail_builtinR (x:=w) pl.isList.typeIs slot_list_getitem.lookup
   (wpAny_getItem_list_neg (Q:=λr s'=>r=w/\EP X pins σ Q r s') pl.isList (by lia) (by rw[E5]<;>lia) (by lia) (by rw[hj];simpa using ew) ⟨rfl,d5⟩) hs
theorem ix_tup:IxR X (rIxT X.K):=by
 intro value slice pins s σ H x y v u Q I rx ry h hs
 obtain⟨p,xs,i,z,rfl,rfl,hq,he,q⟩:=h
 cases rx
 obtain⟨t,rfl⟩:=ry
 obtain⟨its,r,pl,hz⟩:=I.tuple hq
 obtain⟨j,h1,h2,h3,h4,h5⟩:=atI_get he
 obtain⟨w,ew,g8⟩:=r.get h2
 have hl:=r.length
 have hn:=line63
 have d5:EP X pins σ Q w s:=⟨z,H,I,g8,q⟩
 exact subscriptTail_builtinR (x:=w) pl.typeIs slot_tuple_getitem.lookup
  (getItem_tuple (j:=j) (Q:=λr s'=>r=w/\EP X pins σ Q r s') pl (by lia) (by lia) (by rw[E5,<- hl];exact h1) (by simpa using ew) ⟨rfl,d5⟩) hs
theorem wB:IxR X rIxS:=by
 intro value slice pins s σ H x y v u Q I rx ry h hs
 obtain⟨z,i,c,rfl,rfl,hz,he,q⟩:=h
 obtain⟨t,rfl⟩:=rx
 obtain⟨t',rfl⟩:=ry
 obtain⟨j,h1,h2,h3,h4,h5⟩:=atI_get he
 have hl:z.cps.toList.length=z.length:=by simp[Str.length]
 rw[hl] at h1 h4 h5
 have hn:=line63
 exact tail_any (typeIs_str s z t) slot_str_getitem.lookup (getItem_str (c:=c) (by
  have e1:decide (i< -(2 ^ 63:Int))=false:=decide_eq_false (by lia)
  have e2:decide (i >= 2 ^ 63)=false:=decide_eq_false (by lia)
  rw[e1,e2,Bool.or_false]) (by rw[h1];simpa using h2) ⟨.str ⟨#[c]⟩,H,I.tok _,⟨_,rfl⟩,q⟩) hs
def rIx(K:Ex):R2:=λx y H Q=>rIxL K x y H Q\/rIxT K x y H Q\/rIxS x y H Q
theorem pZ:IxR X (rIx X.K):=ix_list.or (ix_tup.or wB)
theorem wC(its:List Value)(n j:Nat)(u:Value):Obj.mapSeq (·.setIfInBounds j u) {cls:= .type "list",data:= .seq its.toArray n}={cls:= .type "list",data:= .seq (its.set j u).toArray n}:=by
 simp[Obj.mapSeq]
theorem Inv.lst{pins:List (Addr × Obj)}{σ:St}{H:Hp}{s:Shared}{p:Addr}{xs:List V}(I:Inv X pins σ H s)(h:H p=some (.lst xs)):
  ∃ (its:List Value) (n:Nat),Vals xs its/\s.heap.get? p=some {cls:= .type "list",data:= .seq its.toArray n}/\xs.length<=sizeLine:=by
 obtain⟨z,its,n,r,e⟩:=I.hok p _ h
 exact⟨its,n,r,e,z⟩
theorem Inv.lstUpd{pins:List (Addr × Obj)}{σ:St}{H:Hp}{s:Shared}{p:Addr}{xs ys:List V}{its its':List Value}{n n':Nat}{f:Obj->Obj}(I:Inv X pins σ H s)(h:H p=some (.lst xs))
  (ho:s.heap.get? p=some {cls:= .type "list",data:= .seq its.toArray n}) (hf:f {cls:= .type "list",data:= .seq its.toArray n}={cls:= .type "list",data:= .seq its'.toArray n'}) (r:Vals ys its') (hz:ys.length<=sizeLine) (t:Nat):
  Inv X pins σ (upd H p (.lst ys)) {s with heap:=s.heap.update p f,toks:=t}:=by
 have e:(s.heap.update p f).get? p=some {cls:= .type "list",data:= .seq its'.toArray n'}:=by
  rw[Heap.get?_update_self f ho (by rw[hf]<;>rfl),hf]
 refine I.write (x:=p) (e:=p) (by rw[h];trivial) (.inl rfl) (λb u hb q=>(Heap.get?_update_other _ _ (Ne.symm hb)).trans q) ⟨_,e⟩ ?_
 exact⟨hz,its',n',r,e⟩
def wE:V->V->V->Hp->(Hp->Prop)->Prop:=λo i v H Q=>∃ p xs k j,o= .ref p/\i= .int k/\H p=some (.lst xs)/\ixN xs.length k=some j/\Q (upd H p (.lst (xs.set j v)))
theorem wF:PSet X wE:=by
 intro pins s σ H o i v ov iv u Q I ro ri rv h
 obtain⟨p,xs,k,j,rfl,rfl,hp,hj,q⟩:=h
 cases ro
 obtain⟨t,rfl⟩:=ri
 obtain⟨its,n,r,ho,hz⟩:=I.lst hp
 obtain⟨h1,h2,h3,h4⟩:=pY hj
 have hl:=r.length
 have hn:=line63
 have I':Inv X pins σ (upd H p (.lst (xs.set j v))) {s with heap:=s.heap.update p (Obj.mapSeq (·.setIfInBounds j u))}:=
  I.lstUpd hp ho (wC its n j u) (r.set rv j) (by rw[F7];exact hz) s.toks
 by_cases h0:0<=k
 ·have hk:k.toNat=j:=by
   rw[seqIndex_of h0 h4] at h1
   exact Option.some.inj h1
  exact ki_setAt ho h0 (by lia) (by rw[E5,<- hl];exact h4) (by rw[hk];exact⟨_,I',q⟩)
 ·have hk:(k+(its.toArray.size:Int)).toNat=j:=by
   rw[seqIndex_neg (by lia) h3] at h1
   rw[E5,<- hl]
   exact Option.some.inj h1
  exact ki_setBack ho (by lia) (by rw[E5,<- hl];exact h3) (by lia) (by rw[hk];exact⟨_,I',q⟩)
theorem wG(lo hi:Option Int)(n:Nat):(sliceBounds lo hi none n).1=((HT.sIx n 0 lo:Nat):Int)/\(sliceBounds lo hi none n).2.1=((HT.sIx n n hi:Nat):Int)/\(sliceBounds lo hi none n).2.2=1:=by
 refine⟨?_,?_,rfl⟩
 ·cases lo with
  |none=>simp[sliceBounds,HT.sIx]
  |some i=>
   simp only[sliceBounds,HT.sIx,Hu,show(1:Int)>0 by decide,if_true]
   by_cases h:i<0
   ·simp only[h,if_true]<;>lia
   ·simp only[h,if_false]<;>lia
 ·cases hi with
  |none=>simp[sliceBounds,HT.sIx]
  |some i=>
   simp only[sliceBounds,HT.sIx,Hu,show(1:Int)>0 by decide,if_true]
   by_cases h:i<0
   ·simp only[h,if_true]<;>lia
   ·simp only[h,if_false]<;>lia
theorem wH(its:List Value)(lo hi:Option Int):slicePick its.toArray lo hi none=((its.drop (HT.sIx its.length 0 lo)).take (HT.sIx its.length its.length hi - HT.sIx its.length 0 lo)).toArray:=by
 obtain⟨h1,h2,h3⟩:=wG lo hi its.toArray.size
 unfold slicePick
 rw[h1,h2,h3]
 simp only[sliceRange_one,pick_run,E5]<;>rfl
def rSlL(K:Ex):V->Option Int->Option Int->Hp->VK->Prop:=λx lo hi H Q=>∃ a xs,x= .ref a/\SqL K H a xs/\∀ p,H p=none->Q (.ref p) (upd H p (.lst (cutV xs lo hi)))
theorem qa:SlR X (rSlL X.K):=by
 intro pins s σ H x v vl vu lo hi sl Q I rx hs pl pu h
 obtain⟨a,xs,rfl,hx,q⟩:=h
 cases rx
 obtain⟨its,r,ht,hz⟩:=I.list hx
 have b7:=r.length
 refine⟨"list",_,slot_list_getitem.lookup,ht.isList.typeIs,?_⟩
 refine wpAny_getItem_list_slice ht.isList hs pl pu .none (by simp) ?_ (by rw[E5]<;>lia)
 rw[wH,<- b7]
 refine⟨.ref s.heap.objs.size,_,I.laid (t':=s.toks) (o:= .lst (cutV xs lo hi)) (λb ob q=>Heap.get?_push_of_some _ q) (ER _) ?_,rfl,q _ (I.hok.fresh (ER _))⟩
 exact⟨E4 (pW xs lo hi) hz,_,0,(r.drop (HT.sIx xs.length 0 lo)).take (HT.sIx xs.length xs.length hi - HT.sIx xs.length 0 lo),Heap.get?_push_size _ rfl⟩
def cu:V->Bool
 | .non=>true
 | .bl _=>true
 | .int _=>true
 | .str _=>true
 |_=>false
def eqV:V->V->Bool
 | .non,.non=>true
 | .bl a,.bl b=>a==b
 | .bl a,.int b=>(if a then 1 else 0)==b
 | .int a,.bl b=>a==(if b then 1 else 0)
 | .int a,.int b=>a==b
 | .str a,.str b=>a==b
 |_,_=>false
theorem eqAt_V{A:Around}{s:Shared}{y x:V}{u v:Value}(ry:RelV y u)(rx:RelV x v)(fy:cu y=true)(fx:cu x=true):SeqAt.EqAt A s u v (eqV y x):=by
 cases y with
 |non=>
  cases ry
  cases x with
  |non=>cases rx;exact SeqAt.EqAt.same _
  |bl b=>cases rx;exact SeqAt.EqAt.none_bool b
  |int b=>obtain⟨t,rfl⟩:=rx;exact SeqAt.EqAt.none_int b t
  |str b=>obtain⟨t,rfl⟩:=rx;exact SeqAt.EqAt.none_str b t
  |_=>exact absurd (show false=true from fx) E6
 |bl a=>
  cases ry
  cases x with
  |non=>cases rx;exact SeqAt.EqAt.bool_none a
  |bl b=>cases rx;exact SeqAt.EqAt.bool_bool a b
  |int b=>obtain⟨t,rfl⟩:=rx;exact SeqAt.EqAt.bool_int a b t
  |str b=>obtain⟨t,rfl⟩:=rx;exact SeqAt.EqAt.bool_str a b t
  |_=>exact absurd (show false=true from fx) E6
 |int a=>
  obtain⟨t',rfl⟩:=ry
  cases x with
  |non=>cases rx;exact SeqAt.EqAt.int_none a t'
  |bl b=>cases rx;exact SeqAt.EqAt.int_bool a t' b
  |int b=>obtain⟨t,rfl⟩:=rx;exact SeqAt.EqAt.int_int a t' b t
  |str b=>obtain⟨t,rfl⟩:=rx;exact SeqAt.EqAt.int_str a t' b t
  |_=>exact absurd (show false=true from fx) E6
 |str a=>
  obtain⟨t',rfl⟩:=ry
  cases x with
  |non=>cases rx;exact SeqAt.EqAt.str_none a t'
  |bl b=>cases rx;exact SeqAt.EqAt.str_bool a t' b
  |int b=>obtain⟨t,rfl⟩:=rx;exact SeqAt.EqAt.str_int a t' b t
  |str b=>obtain⟨t,rfl⟩:=rx;exact SeqAt.EqAt.str_str a t' b t
  |_=>exact absurd (show false=true from fx) E6
 |_=>exact absurd (show false=true from fy) E6
def eqU(x:V)(u:Value):Bool:=match u with
 | .none=>eqV .non x
 | .bool b=>eqV (.bl b) x
 | .int i _=>eqV (.int i) x
 | .str z _=>eqV (.str z) x
 |_=>false
theorem qc{x y:V}{u:Value}(r:RelV y u)(f:cu y=true):eqU x u=eqV y x:=by
 cases y with
 |non=>cases r;rfl
 |bl b=>cases r;rfl
 |int i=>obtain⟨t,rfl⟩:=r;rfl
 |str z=>obtain⟨t,rfl⟩:=r;rfl
 |_=>exact absurd (show false=true from f) E6
theorem jB{x:V}:∀ {xs:List V} {us:List Value},Vals xs us->xs.all cu=true->us.any (eqU x)=xs.any λy=>eqV y x
 |_,_,.nil,_=>rfl
 |y::xs,u::us,.cons r t,f=>by
  rw[GB,FC] at f
  rw[F8,F8,qc r f.1,jB t f.2]
theorem mem_eqAt{A:Around}{s:Shared}{x:V}{v:Value}(rx:RelV x v)(fx:cu x=true):∀ {xs:List V} {us:List Value},Vals xs us->xs.all cu=true->∀ u∈us,SeqAt.EqAt A s u v (eqU x u)
 |_,_,.nil,_=>λu hu=>by cases hu
 |y::xs,u::us,.cons r t,f=>λu' hu=>by
  rw[GB,FC] at f
  rcases EU.mp hu with rfl|hu
  ·rw[qc r f.1];exact eqAt_V r rx f.1 fx
  ·exact mem_eqAt rx fx t f.2 u' hu
def inV(x:V)(xs:List V):Bool:=xs.any λy=>eqV y x
def rIn(K:Ex)(neg:Bool):R2:=λx y H Q=>∃ p xs,y= .ref p/\(SqL K H p xs\/SqT K H p xs)/\cu x=true/\xs.all cu=true/\Q (.bl (if neg then !inV x xs else inV x xs)) H
theorem wI:OpR X (compareOp .NotIn) (rIn X.K true):=by
 intro pins s σ H x y v u Q I rx ry h
 obtain⟨p,xs,rfl,hq,fx,fs,q⟩:=h
 cases ry
 rcases hq with hq|hq
 ·obtain⟨its,r,pl,hz⟩:=I.list hq
  refine SeqAt.notIn_listAt (eqU x) pl.isList (λw hw=>mem_eqAt rx fx r fs w (by simpa using hw)) ⟨.bl _,H,I,rfl,?_⟩
  rw[show its.toArray.any (eqU x)=its.any (eqU x) by simp,jB r fs]
  exact q
 ·obtain⟨its,r,pl,hz⟩:=I.tuple hq
  refine SeqAt.notIn_tupleAt (eqU x) pl (λw hw=>mem_eqAt rx fx r fs w (by simpa using hw)) ⟨.bl _,H,I,rfl,?_⟩
  rw[show its.toArray.any (eqU x)=its.any (eqU x) by simp,jB r fs]
  exact q
theorem wJ:OpR X (compareOp .NotIn) (λx y H Q=>∃ i j,x= .str i/\y= .str j/\Q (.bl (!(!(Builtin.Str.occurrences j i 0 j.length 1).isEmpty))) H):=by
 intro pins s σ H x y v u Q I rx ry h
 obtain⟨i,j,rfl,rfl,q⟩:=h
 obtain⟨t,rfl⟩:=rx
 obtain⟨t',rfl⟩:=ry
 exact notIn_str ⟨.bl _,H,I,rfl,q⟩
theorem wK:bw X (.type "list") (λxs H Q=>∃ p ys,xs=[.ref p]/\(SqL X.K H p ys\/SqT X.K H p ys)/\∀ l,H l=none->Q (.ref l) (upd H l (.lst ys))):=by
 intro pins s σ H xs us Q I r h
 obtain⟨p,ys,rfl,hq,q⟩:=h
 obtain⟨u,rfl,rx⟩:=bD r
 cases rx
 have d5:∀ (its:List Value),Vals ys its->ys.length<=sizeLine->∀ (h':Heap) (c':Nat),(∀ b o',s.heap.get? b=some o'->h'.get? b=some o')->
   h'.get? s.heap.objs.size=some {cls:= .type "list",dict:=none,data:= .seq its.toArray c',slots:=#[]}->EP X pins σ Q (.ref s.heap.objs.size) {s with heap:=h'}:=λits r' hz h' c' kp e=>
  ⟨.ref s.heap.objs.size,_,I.laid (t':=s.toks) kp (ER _) (show ObjOk X.prog X.w _ h' _ (.lst ys) from⟨hz,its,c',r',e⟩),rfl,q _ (I.hok.fresh (ER _))⟩
 rcases hq with hq|hq
 ·obtain⟨its,r',pl,hz⟩:=I.list hq
  have b7:=r'.length
  obtain⟨o,ho,hc,n,hd⟩:=pl.isList
  exact call_list_seq p (.inl rfl) ho hc hd (λh' c' kp e=>d5 its r' hz h' c' kp e) (by simp only[E5]<;>lia)
 ·obtain⟨its,r',pl,hz⟩:=I.tuple hq
  have b7:=r'.length
  obtain⟨o,ho,hc,n,hd⟩:=pl
  exact call_list_seq p (.inr rfl) ho hc hd (λh' c' kp e=>d5 its r' hz h' c' kp e) (by simp only[E5]<;>lia)
theorem wL:bw X (.type "tuple") (λxs H Q=>∃ p ys,xs=[.ref p]/\((SqL X.K H p ys/\∀ l,H l=none->Q (.ref l) (upd H l (.tup ys)))\/(SqT X.K H p ys/\Q (.ref p) H))):=by
 intro pins s σ H xs us Q I r h
 obtain⟨p,ys,rfl,h⟩:=h
 obtain⟨u,rfl,rx⟩:=bD r
 cases rx
 rcases h with⟨hq,q⟩|⟨hq,q⟩
 ·obtain⟨its,r',pl,hz⟩:=I.list hq
  have b7:=r'.length
  refine call_tuple_list pl.isList (λh' kp=>?_) (by simp only[E5]<;>lia)
  have I1:Inv X pins σ H {s with heap:=h'}:=I.kept (t':=s.toks) kp
  have I2:Inv X pins σ (upd H h'.objs.size (.tup ys)) {s with heap:=h'.push {cls:= .type "tuple",data:= .seq its.toArray} }:=
   I1.laid (t':=s.toks) (λb o e=>Heap.get?_push_of_some _ e) (ER _) (show ObjOk X.prog X.w _ _ _ (.tup ys) from⟨hz,its,r',IsTup.new _ _⟩)
  exact⟨.ref h'.objs.size,_,I2,rfl,q _ (I1.hok.fresh (ER _))⟩
 ·obtain⟨its,r',pl,hz⟩:=I.tuple hq
  exact call_tuple_same pl ⟨.ref p,H,I,rfl,q⟩
def tyV(K:Ex)(T:String)(x:V)(H:Hp):Prop:=match x with
 | .str _=>T="str"
 | .int _=>T="int"
 | .ref p=>(T="list"/\∃ xs,SqL K H p xs)\/(T="tuple"/\∃ o,K.lookup p=some o/\o.cls= .type "tuple"/\o.dict=none)\/
   (T="dict"/\((∃ a8,H p=some (.dK a8))\/∃ a8,H p=some (.dT a8)))\/(T="set"/\∃ S n,H p=some (.set S n))
 |_=>False
theorem wM{pins:List (Addr × Obj)}{σ:St}{H:Hp}{s:Shared}{T:String}{x:V}{v:Value}(I:Inv X pins σ H s)(r:RelV x v)(ty:tyV X.K T x H):
  s.TypeIs v T/\∀ a,v= .ref a->∃ ob,s.heap.get? a=some ob/\ob.dict=none:=by
 cases x with
 |str z=>
  obtain⟨t,rfl⟩:=r
  cases(show T="str" from ty)
  exact⟨typeIs_str s z t,λ_ e=>nomatch e⟩
 |int i=>
  obtain⟨t,rfl⟩:=r
  cases(show T="int" from ty)
  exact⟨typeIs_int s i t,λ_ e=>nomatch e⟩
 |ref p=>
  cases r
  rcases ty with⟨rfl,xs,hq⟩|⟨rfl,o,hk,hc,hd⟩|⟨rfl,hk⟩|⟨rfl,S,n,hk⟩
  ·obtain⟨its,_,pl,_⟩:=I.list hq
   refine⟨pl.isList.typeIs,λa e=>?_⟩
   cases e
   obtain⟨o,n,e,c,hd,_⟩:=pl
   exact⟨o,e,hd⟩
  ·refine⟨⟨o,I.kIn p o hk,hc⟩,λa e=>?_⟩
   cases e
   exact⟨o,I.kIn _ o hk,hd⟩
  ·have z:∃ o,s.heap.get? p=some o/\o.ExactDict:=by
    rcases hk with⟨a8,hk⟩|⟨a8,hk⟩
    ·obtain⟨_,_,_,_,o,_,_,e,ex,_⟩:=I.hok p _ hk
     exact⟨o,e,ex⟩
    ·obtain⟨_,_,_,_,o,_,_,e,ex,_⟩:=I.hok p _ hk
     exact⟨o,e,ex⟩
   obtain⟨o,e,ex⟩:=z
   refine⟨⟨o,e,ex.1⟩,λa e2=>?_⟩
   cases e2
   exact⟨o,e,ex.2.1⟩
  ·obtain⟨o,_,_,_,e,ex,_⟩:=I.hok p _ hk
   refine⟨⟨o,e,ex.1⟩,λa e2=>?_⟩
   cases e2
   exact⟨o,e,ex.2.1⟩
 |_=>exact False.elim ty
def tBM(K:Ex)(T:String)(r:V->List V->Hp->VK->Prop)(to:TE)(t:TA):TE:=λσ H Q=>to σ H λx H1=>tyV K T x H1/\t σ H1 λxs H2=>r x xs H2 Q
variable {o e:Expr}{es:List Expr}{to:TE}{t:TA}{name:Str}{apos cpos:Pos}{T id:String}{r:V->List V->Hp->VK->Prop}
theorem dX(pa:PlainAttrs T)(slot:Slot T name id)(LC:typeOf (.builtin id)=pure (.type "method_descriptor"))(hm:MtR X id r)(ho:PE X o to)(ha:PA X (e::es) t)
  (b9:attributeBase o name X.env (eval o X.env)=eval o X.env:=by rfl)
  (d9:((backTo cpos (starEach (e::es) X.env)).all (λx=>!x.1) && (backToKw cpos (keywordEach [] X.env)).all (λx=>x.1.isSome)
   && decide ((e::es).length+([]:List Keyword).length+(if([]:List Keyword).isEmpty then 0 else 1)<30))=true:=by rfl)
  (c7:(apos.endLine==cpos.line)=true:=by rfl) (hs:zSE X e es:=by rfl) (n4:zPL X cpos es:=by rfl):
  PE X (.Call (.Attribute o name apos) (e::es) [] cpos) (tBM X.K T r to t):=by
 intro pins s σ H Q I h
 refine wpAny_Call_method_late b9 d9 c7 rfl (thn (ho pins s σ H _ I h) λv s1 ⟨x,H1,I1,r1,ty,q1⟩=>?_)
 obtain⟨h1,h2⟩:=wM I1 r1 ty
 refine⟨T,id,pa,slot,LC,h1,h2,?_⟩
 have hA:=ha cpos pins s1 σ H1 _ I1 q1
 rw[hs] at hA ⊢
 refine Calls.callWith_builtin (by show(false||(backTo cpos (starEach es X.env)).any (·.1))=false;rw[n4]<;>rfl) (Calls.evalArgs_plain ?_)
 exact thn hA λus s2 ⟨vs,H2,I2,r2,q2⟩=>hm pins s2 σ H2 x vs v us Q I2 r1 r2 q2
end
def MtM(X:Cx)(id:String)(r:V->List V->Hp->VK->Prop):Prop:=
 ∀ (pins:List (Addr × Obj)) (s:Shared) (σ:St) (H:Hp) (x:V) (xs:List V) (v:Value) (us:List Value) (Q:VK),Inv X pins σ H s->RelV x v->Vals xs us->r x xs H Q->
  wpAny (model X.prog X.w) X.A (call (.builtin id) (v::us)) (EP X pins σ Q) X.xe s
theorem Vals.one:∀ {x:V} {us:List Value},Vals [x] us->∃ u,us=[u]/\RelV x u
 |_,_,.cons r .nil=>⟨_,rfl,r⟩
theorem Vals.two:∀ {x y:V} {us:List Value},Vals [x,y] us->∃ u v,us=[u,v]/\RelV x u/\RelV y v
 |_,_,_,.cons r (.cons q .nil)=>⟨_,_,rfl,r,q⟩
theorem Vals.zero:∀ {us:List Value},Vals [] us->us=[]
 |_,.nil=>rfl
theorem Vals.dropLast{xs:List V}{us:List Value}(h:Vals xs us):Vals xs.dropLast us.dropLast:=by
 induction h with
 |nil=>exact .nil
 |cons r t ih=>
  cases t with
  |nil=>exact .nil
  |cons q t'=>exact .cons r ih
section
variable {X:Cx}{pins:List (Addr × Obj)}{σ:St}{H:Hp}{s:Shared}{l b:Addr}{xs ys zs:List V}
theorem Inv.lset{its its':List Value}{n:Nat}{f:Array Value->Array Value}{t':Nat}(I:Inv X pins σ H s)(hH:H l=some (.lst xs))
  (e:s.heap.get? l=some {cls:= .type "list",data:= .seq its.toArray n}) (hf:f its.toArray=its'.toArray) (hv:Vals ys its') (hz:ys.length<=sizeLine):
  Inv X pins σ (upd H l (.lst ys)) {s with heap:=s.heap.update l (Obj.mapSeq f),toks:=t'}:=by
 have q:=PySem.IsL.update e f
 rw[hf] at q
 refine I.write (x:=l) (e:=l) (by rw[hH];exact trivial) (.inl rfl) (λb' u hb hu=>(Heap.get?_update_other s.heap (Obj.mapSeq f) (Ne.symm hb)).trans hu) ⟨_,q⟩ ?_
 exact⟨hz,its',_,hv,q⟩
theorem Inv.lnew{its:List Value}{t':Nat}(I:Inv X pins σ H s)(hv:Vals ys its)(hz:ys.length<=sizeLine):
  Inv X pins σ (upd H s.heap.objs.size (.lst ys)) {s with heap:=s.heap.push {cls:= .type "list",data:= .seq its.toArray},toks:=t'}:=
 I.laid (λ_ _ q=>Heap.get?_push_of_some _ q) (ER _) ⟨hz,its,0,hv,Heap.get?_push_size _ rfl⟩
theorem Inv.fresh(I:Inv X pins σ H s):H s.heap.objs.size=none:=I.hok.fresh (ER _)
theorem Inv.lstM(I:Inv X pins σ H s)(hH:H l=some (.lst xs)):xs.length<=sizeLine/\∃ (its:List Value) (n:Nat),Vals xs its/\xs.length=its.length/\s.heap.get? l=some {cls:= .type "list",data:= .seq its.toArray n}:=by
 obtain⟨z,its,n,r,e⟩:=I.hok l _ hH
 exact⟨z,its,n,r,r.length,e⟩
theorem wO{n:Nat}(h:n<=sizeLine):Builtin.List.listTooLong n=false:=by
 unfold Builtin.List.listTooLong
 exact decide_eq_false (by lia)
end
section
variable {X:Cx}
def wP:V->List V->Hp->VK->Prop:=λx vs H Q=>∃ l xs y,x= .ref l/\vs=[y]/\H l=some (.lst xs)/\xs.length<sizeLine/\Q .non (upd H l (.lst (xs++[y])))
theorem gc:MtM X "list.append" wP:=by
 intro pins s σ H x vs v us Q I rx rv h
 obtain⟨l,xs,y,rfl,rfl,hH,hz,q⟩:=h
 cases rx
 obtain⟨u,rfl,ru⟩:=rv.one
 obtain⟨z,its,n,r,hl,e⟩:=I.lstM hH
 refine call_meets F.slot_list_append ⟨_,e,rfl⟩ F.entry_list_append (F.args_list_append_2 _ _) (PySem.list_append l its.toArray n u (by rw[E5];lia)) ⟨e,?_⟩
 refine⟨.non,_,I.lset (its':=its++[u]) hH e (by simp) (r.append (.cons ru .nil)) ?_,rfl,q⟩
 rw[E2,List.length_singleton]
 lia
def wQ:V->List V->Hp->VK->Prop:=λx vs H Q=>∃ l b xs zs,x= .ref l/\vs=[.ref b]/\H l=some (.lst xs)/\H b=some (.lst zs)/\xs.length+zs.length<=sizeLine/\Q .non (upd H l (.lst (xs++zs)))
theorem EM:MtM X "list.extend" wQ:=by
 intro pins s σ H x vs v us Q I rx rv h
 obtain⟨l,b,xs,zs,rfl,rfl,hH,hB,hz,q⟩:=h
 cases rx
 obtain⟨u,rfl,ru⟩:=rv.one
 cases ru
 obtain⟨z,its,n,r,hl,e⟩:=I.lstM hH
 obtain⟨z2,l8,n2,r2,IA,e2⟩:=I.lstM hB
 have g6:its.toArray.size+l8.toArray.size<=sizeLine:=by rw[E5,E5];lia
 have JW:¬ (!its.toArray.isEmpty && Builtin.List.listTooLong (its.toArray.size+l8.toArray.size))=true:=by
  rw[wO g6,Bool.and_false]
  exact E6
 refine call_meets F.slot_list_extend ⟨_,e,rfl⟩ F.entry_list_extend (F.args_list_extend_2 _ _)
  (AutoSeq1.list_extend_list_list_0 l its.toArray n b l8.toArray n2 JW (by rw[E5];lia) (by lia)) ⟨e,e2,?_⟩
 refine⟨.non,_,I.lset (its':=its++l8) hH e (by simp) (r.append r2) ?_,rfl,q⟩
 rw[E2]
 lia
def rCat:R2:=λx y H Q=>∃ l b xs zs,x= .ref l/\y= .ref b/\H l=some (.lst xs)/\H b=some (.lst zs)/\xs.length+zs.length<=sizeLine/\∀ p,H p=none->Q (.ref p) (upd H p (.lst (xs++zs)))
theorem wR:OpR X (binaryOp .Add) rCat:=by
 intro pins s σ H x y v u Q I rx ry h
 obtain⟨l,b,xs,zs,rfl,rfl,hH,hB,hz,q⟩:=h
 cases rx
 cases ry
 obtain⟨z,its,n,r,hl,e⟩:=I.lstM hH
 obtain⟨z2,l8,n2,r2,IA,e2⟩:=I.lstM hB
 refine PySem.P.add_list e e2 ?_ (by rw[E5,E5];lia)
 have ea:its.toArray++l8.toArray=(its++l8).toArray:=by simp
 rw[ea]
 exact⟨.ref _,_,I.lnew (t':=s.toks) (r.append r2) (by rw[E2];lia),rfl,q _ I.fresh⟩
end
end L2
namespace NK
open PySem PySem.W PySem.Calls PyProof.Rows
theorem wS{P:Params}{h:Heap}:∀ (ns:List Int) (vs:List Value),WellAll P h vs (ns.map WData.int)->IntsAre vs ns:=by
 intro ns
 induction ns with
 |nil=>
  intro vs w
  rw[FX] at w
  cases w
  exact .nil
 |cons n ns ih=>
  intro vs w
  rw[E9] at w
  cases w with
  |cons a b=>
   cases a
   exact .cons _ _ (ih _ b)
theorem wT{l:OpenLaw}{n:Nat}(hn:l.most=some n){P:Params}{h:Heap}{args:List WData}{IQ:List Value}
  (z9:l.row.toRowW.claim.pre args=true) (LD:WellAll P h IQ args):
  ∃ a vs ns,IQ=[Value.ref a]/\args=[WData.list (ns.map WData.int)]/\h.get? a=some {cls:= .type "list",data:= .seq vs.toArray}/\IntsAre vs ns/\ns.length<=n:=by
 have OJ:WShape.hasAll [] args [.list .int]=true:=(pre_splitW z9).1
 have hc:l.pre.holds [] {args:=args}=true:=(pre_splitW z9).2
 obtain⟨d,r,rfl,h1,h2⟩:=hasAllW_cons OJ
 obtain rfl:=hasAllW_nil h2
 obtain⟨xs,rfl,h3⟩:=hasW_list h1
 obtain⟨ns,rfl⟩:=items_int h3
 have b7:ns.length<=n:=by
  unfold OpenLaw.pre at hc
  have h4:(WTm.not (.lt (.lit (.int (n:Int))) (.len (.arg 0)))).holds [] {args:=[.list (ns.map .int)]}=true:=by
   have h4:=(holds_andW hc).1
   rw[hn] at h4
   exact h4
  have h5:=condW_of h4 (w_not (w_lt w_lit (w_len_list (w_arg rfl))))
  rw[E1] at h5
  refine GC λq=>?_
  have q':(n:Int)<((ns.length:Nat):Int):=by lia
  first
   |(rw[decide_eq_true q'] at h5;exact absurd h5 (by decide))
   |(simp at h5;lia)
 cases LD with
 |cons w1 w2=>
  cases w2
  cases w1 with
  |list ho z_=>exact⟨_,_,ns,rfl,rfl,ho,wS ns _ z_,b7⟩
theorem wU(l:OpenLaw)(args:List WData):l.row.toRowW.claim.post args (.bool true) args=true:=
 postW_of (r:=l.row.toRowW) (X:=(true==true))
  (show WShape.has [] (.bool true) .bool=true by first|rfl|decide|simp[WShape.has,WShape.arms,WShape.armsAll])
  (show(WTm.eq .res (.lit (.bool true))).value [] {args:=args,res:=some (.bool true),after:=args}=some (.bool (true==true)) from w_eq_bool (w_res rfl) w_lit) rfl
theorem attach_call{l:OpenLaw}{n:Nat}{q:Program}{j7:List Str}{XP:(Str->Option Value)->Heap->Prop}{YP:World->Heap->Prop}{d:DefRec}
  (hn:l.most=some n) (JX:d.params.defaults=[])
  (call:∀ (w:World) (s₀ s₁:Shared) (mg mb:Str->Option Value) (fa:Addr) (o:Obj) (pm cd doc:Value) (a:Addr) (vs:List Value) (ns:List Int),
   Ground q j7 [] XP w s₀ mg mb s₁.heap->YP w s₁.heap->
   s₁.heap.get? fa=some o->o.data= .func (docDef d.name d.params d.body d.scope pm cd doc)->s₁.heap.CodeRec cd d.name->mg d.name=some (.ref fa)->
   s₁.heap.get? a=some {cls:= .type "list",data:= .seq vs.toArray}->IntsAre vs ns->ns.length<=n->s₁.gens=#[]->
   codeAny (model l.prog w) callerA (.call (.ref fa) ⟨[.ref a],[]⟩) (λr s'=>r= .ok (.ret (.bool true))/\OldK s₁.heap s'.heap/\s'.os=s₁.os/\AllBare s'.gens) s₁):
  WalkO q j7 XP YP l.row.toRowW d [] (λf vs=>PySem.call f vs):=by
 intro w s₀ s₁ mg mb G Y fa o pm cd doc dV kV ho hd ge hD l9 hg args IQ as z9 OK P6 LD P7
 obtain rfl:dV= .none:=Dflts.none hD JX
 obtain rfl:kV= .none:=Dflts.noKw hD
 obtain⟨a,vs,ns,rfl,rfl,IR,u_,b7⟩:=wT hn z9 LD
 refine enter_call (codeAny_mono (call w s₀ s₁ mg mb fa o pm cd doc a vs ns G Y ho (fd_plain hd) ge l9 IR u_ b7 hg) λr s' hq=>?_)
 obtain⟨rfl,h2,h3,h4⟩:=hq
 exact⟨.inl ⟨.bool true,.bool true,[],rfl,λ_=>rfl,.bool true,wU l _,λ_=>⟨List.Pairwise.nil,λ_ hm=>(nomatch hm)⟩⟩,h2,h3,h4⟩
end NK
namespace L2
open PySem PySem.Spec PyProof.Rows
theorem qd:∀ {vs:List Value} {ns:List Int},IntsAre vs ns->Vals (ns.map V.int) vs
 |_,_,.nil=> .nil
 |_,_,.cons n t h=> .cons ⟨t,rfl⟩ (qd h)
def Only(H:Hp):Prop:=∀ b,H b=none\/∃ o xs,H b=some (.frz o (.lst xs))
theorem wV{P:Program}{w:World}{K:Ex}{mg mb:Str->Option Value}{CX:CXT}{k:Nat}{fa a:Addr}{fd:FuncData}{x:Str}{sp:Sp}{s₁:Shared}{vs:List Value}{ns:List Int}
  (KX:K.In s₁.heap) (hns:s₁.heap.Ns mainGlobals mg) (hb:s₁.heap.Ns builtinsNs mb) (OL:∀ x:Str,x≠"__name__"->mb x=bootBuiltins x) (LF:s₁.heap.NoLimit) (hg:s₁.gens=#[])
  (ha:s₁.heap.get? a=some {cls:= .type "list",data:= .seq vs.toArray}) (hi:IntsAre vs ns) (hl:ns.length<=sizeLine) (hr:Room k callerA)
  (F:∀ base:Heap,K.In base->base.Ns mainGlobals mg->FnOk P w K mg base CX k fa fd [x] sp) (JY:∀ (s:Shared) (u:Value),BindsTo s fd ⟨[u],[]⟩ [(x,u)])
  (q8:∀ H:Hp,Only H->SqL K H a (ns.map V.int)->sp [.ref a] H (λv _=>v= .bl true) λ_ _ _=>False)
  (LG:∀ H e s',CX [] H s₁ (λ_ _ _=>False) e s'->False):
  codeAny (model P w) callerA (.call (.ref fa) ⟨[.ref a],[]⟩) (λr s'=>r= .ok (.ret (.bool true))/\OldK s₁.heap s'.heap/\s'.os=s₁.os/\AllBare s'.gens) s₁:=by
 have rv:=qd hi
 have LH:=hi.length
 -- from an JZ heap in NL K0 P8 p7 IS P9 be j9
 have J0:∀ H:Hp,Only H->SqL K H a (ns.map V.int)->HOk P w H s₁.heap->(∀ b,H b≠none->b=a)->(H a≠none->K.lookup a=none)->
   codeAny (model P w) callerA (.call (.ref fa) ⟨[.ref a],[]⟩) (λr s'=>r= .ok (.ret (.bool true))/\OldK s₁.heap s'.heap/\s'.os=s₁.os/\AllBare s'.gens) s₁:=by
  intro H hO hS hok hA hK
  have p8:∀ {b:Addr} {o:Obj},s₁.heap.get? b=some o->H b=none->(hidT s₁.heap H).get? b=some o:=λe n=>ut e n
  have JU:∀ {b:Addr} {o:Obj} {es:Array DictEntry} {ep:Nat},s₁.heap.get? b=some o->o.data= .dict es ep->H b=none:=λ{b o es ep} e d=>by
   cases q:H b with
   |none=>rfl
   |some u=>
    have e':b=a:=hA b (by rw[q];simp)
    subst e'
    rw[ha] at e;cases e
    have d':Data.seq vs.toArray _=Data.dict es ep:=d
    cases d'
  have K1:∀ {b:Addr} {m:Str->Option Value},s₁.heap.Ns b m->(hidT s₁.heap H).Ns b m:=λ{b m} ⟨o,es,ep,e,d,r⟩=>⟨o,es,ep,p8 e (JU e d),d,r⟩
  have NM:K.In (hidT s₁.heap H):=λb o e=>p8 (KX b o e) (by
   cases q:H b with
   |none=>rfl
   |some u=>
    have e':b=a:=hA b (by rw[q];simp)
    subst e'
    rw[hK (by rw[q];simp)] at e;cases e)
  have hM:Mod K mg (hidT s₁.heap H):=⟨NM,K1 hns,⟨mb,K1 hb,OL⟩,let ⟨mc,h1,h2⟩:=LF;⟨mc,K1 h1,h2⟩⟩
  have e0:Env0 P w K mg (hidT s₁.heap H) callerA [] s₁ H:=⟨rfl,hM,λb o e=>uu e,Gz (uq _ _),trivial,λb hb=>absurd (show b∈([]:List Addr) from hb) (by simp),hok,.of_eq hg⟩
  refine codeAny_mono ((F _ NM (K1 hns)).run callerA [] s₁ H ⟨[.ref a],[]⟩ [.ref a] [.ref a] _ _ hr e0 (JY s₁ (.ref a)) (.cons rfl .nil) (q8 H hO hS)) λr s' h=>?_
  cases r with
  |error e=>exact(LG H e s' h).elim
  |ok fl=>
   cases fl with
   |next=>exact False.elim h
   |brk=>exact False.elim h
   |cont=>exact False.elim h
   |ret u=>
    obtain⟨v,H',os,bare,un,LI,r',q⟩:=h
    have q':v= .bl true:=q
    subst q'
    obtain rfl:u=Value.bool true:=r'
    refine⟨rfl,OldK.of_keep λb o e=>?_,os,bare⟩
    cases q:H b with
    |none=>exact un.keep b o e q (by intro z;exact absurd (show b∈([]:List Addr) from z) (by simp)) (by simp)
    |some u=>
     rcases hO b with z|⟨ob,xs,z⟩
     ·rw[q] at z;cases z
     ·have z2:=un.frzs b ob _ z
      obtain⟨e1,_⟩:=hok b _ z
      obtain⟨e2,_⟩:=LI b _ z2
      rw[e] at e1;cases e1
      exact e2
 cases hk:K.lookup a with
 |some o=>
  -- p7 IS is one of p7 J1 own z6
  have e:=KX a o hk
  rw[ha] at e
  cases e
  refine J0 (λ_=>none) (λ_=> .inl rfl) (.inr ⟨_,vs.toArray,_,hk,rfl,rfl,rfl,by rw[E5,LH];exact hl,by simpa using rv⟩) (λb u z=>by have z':(none:Option HO)=some u:=z;cases z') (λb z=>absurd rfl z) λz=>absurd rfl z
 |none=>
  refine J0 (λb=>if b=a then some (.frz {cls:= .type "list",data:= .seq vs.toArray} (.lst (ns.map V.int))) else none) (λb=>?_) (.inl (.inr ⟨{cls:= .type "list",data:= .seq vs.toArray},if_pos rfl⟩)) (λb u z=>?_) (λb z=>?_) λ_=>hk
  ·by_cases hb:b=a
   ·exact .inr ⟨_,_,if_pos hb⟩
   ·exact .inl (if_neg hb)
  ·by_cases hb:b=a
   ·have z':=(if_pos hb).symm.trans z
    cases z'
    subst hb
    exact⟨ha,by rw[E1];exact hl,vs,_,rv,ha⟩
   ·have z':=(if_neg hb).symm.trans z
    cases z'
  ·by_cases hb:b=a
   ·exact hb
   ·exact absurd (if_neg hb) z
theorem walk_of{l:GX}{n k:Nat}{q:Program}{j7:List Str}{XP:(Str->Option Value)->Heap->Prop}{YP:World->Heap->Prop}{d:DefRec}{K:Params->Ex}{CX:World->CXT}{sp:World->Sp}{x:Str}
  (hn:l.most=some n) (y8:n<=sizeLine) (JX:d.params.defaults=[]) (hr:Room k callerA)
  (hY:∀ (w:World) (h:Heap),YP w h->(K w.params).In h)
  (F:∀ (w:World) (mg:Str->Option Value) (fa:Addr) (h:Heap),(K w.params).In h->h.Ns mainGlobals mg->mg d.name=some (.ref fa)->
   ∃ fd:FuncData,(∀ (s:Shared) (u:Value),BindsTo s fd ⟨[u],[]⟩ [(x,u)])/\
    ∀ base:Heap,(K w.params).In base->base.Ns mainGlobals mg->FnOk l.prog w (K w.params) mg base (CX w) k fa fd [x] (sp w))
  (q8:∀ (w:World) (H:Hp) (a:Addr) (ns:List Int),ns.length<=n->Only H->SqL (K w.params) H a (ns.map V.int)->sp w [.ref a] H (λv _=>v= .bl true) λ_ _ _=>False)
  (LG:∀ (w:World) (H:Hp) (s:Shared) (e:Value) (s':Shared),CX w [] H s (λ_ _ _=>False) e s'->False):
  Hv q j7 XP YP l.row.toRowW d [] (λf vs=>PySem.call f vs):=by
 refine NK.attach_call hn JX λw s₀ s₁ mg mb fa o pm cd doc a vs ns G Y ho hd ge l9 IR u_ b7 hg=>?_
 have KX:=hY w _ Y
 obtain⟨fd,hb,hF⟩:=F w mg fa _ KX G.T.g l9
 exact wV KX G.T.g G.T.b G.T.builtins G.T.nolimit hg IR u_ (E4 b7 y8) hr hF hb (λH hO hS=>q8 w H a ns b7 hO hS) λH e s'=>LG w H s₁ e s'
def bc(s:Stmt)(j:Nat):Stmt:=match s with
 | .ClassDef _ _ _ body _ _ _ _ _ _ _=>body.getD j (.Pass ⟨0,0,0,0⟩)
 |_=> .Pass ⟨0,0,0,0⟩
def bz(s:Stmt):Arguments:=match s with
 | .FunctionDef _ a _ _ _ _ _ _ _ _=>a
 |_=>{posonlyargs:=[],args:=[],vararg:=none,kwonlyargs:=[],kw_defaults:=[],kwarg:=none,defaults:=[]}
def aH(s:Stmt):List Stmt:=match s with
 | .FunctionDef _ _ b _ _ _ _ _ _ _=>b
 |_=>[]
def ag(s:Stmt):Scope:=match s with
 | .FunctionDef _ _ _ _ _ _ sc _ _ _=>sc
 |_=>{kind:= .function,names:=[],isGenerator:=false,isCoroutine:=false}
abbrev CX0:CXT:=λ_ _ _ _ _ _=>False
abbrev E0:XK:=λ_ _ _=>False
structure Fun(K:Ex)(x qual:Str)(st:Stmt)(f:Addr)(fd:FuncData):Prop where
 ex:∃ (oc:Value) (od:Option Addr) (kV doc pm:Value) (an:Option Addr) (cdv ct:Value) (osl:Array (Option Value)),
  fd=fnOf x qual (bz st) (aH st) (ag st) .none kV doc pm an cdv ct/\K.lookup f=some ⟨oc,od,.func fd,osl⟩/\codeIn K cdv qual=true
 kp:keepIn K (.ref f)=true
section
variable {P:Program}{w:World}{K:Ex}{mg:Str->Option Value}{base:Heap}
theorem Fun.ok{x qual:Str}{st:Stmt}{f:Addr}{fd:FuncData}{N ps:List Str}{k:Nat}{sp:Sp}(F:Fun K x qual st f fd)(S:FnScope N ps (ag st))(len:∀ vs H Q E,sp vs H Q E->vs.length=ps.length)
  (a_:∀ (cdv:Value) (A:Around) (outer:List Env) (s:Shared) (H:Hp) (vs:List V) (Q:VK) (E:XK),Room k (A.deeper (envOfC qual (ag st) s.heap.objs.size f cdv))->sp vs H Q E->
   ∃ t,PSs (cxOf CX0 P w K mg base N qual (ag st) f cdv A outer s H E).nox (aH st) t/\t {nx:=λ_ H'=>Q .non H',rt:=Q} (start N vs) H):FnOk P w K mg base CX0 (k+1) f fd ps sp:=by
 obtain⟨oc,od,kV,doc,pm,an,cdv,ct,osl,rfl,lk,ge⟩:=F.ex
 refine pP lk ge S len λA outer s H vs Q E hr q8=>?_
 obtain⟨t,h,q⟩:=a_ cdv A outer s H vs Q E hr q8
 exact⟨t,h.nox,q⟩
theorem Fun.binds{x qual:Str}{st:Stmt}{f:Addr}{fd:FuncData}{ps:List Str}(F:Fun K x qual st f fd)
  (h:∀ (kV doc pm:Value) (an:Option Addr) (cdv ct:Value) (us:List Value),us.length=ps.length->bindArgs (fnOf x qual (bz st) (aH st) (ag st) .none kV doc pm an cdv ct) ⟨us,[]⟩=pure (ps.zip us)):Binds K fd ps []:=by
 obtain⟨oc,od,kV,doc,pm,an,cdv,ct,osl,rfl,lk,ge⟩:=F.ex
 exact .all (h kV doc pm an cdv ct)
theorem gf{x qual:Str}{st:Stmt}{f:Addr}{oc:Value}{od an:Option Addr}{osl:Array (Option Value)}{kV doc pm cdv ct:Value}(l:K.lookup f=some ⟨oc,od,.func (fnOf x qual (bz st) (aH st) (ag st) .none kV doc pm an cdv ct),osl⟩)
  (c:codeIn K cdv qual=true) (k:keepIn K (.ref f)=true):Fun K x qual st f (fnOf x qual (bz st) (aH st) (ag st) .none kV doc pm an cdv ct):=⟨⟨oc,od,kV,doc,pm,an,cdv,ct,osl,rfl,l,c⟩,k⟩
end
theorem qe{A:Around}{k:Nat}(hr:Room k A):A.units+1<cLine:=Hw (Nat.add_le_add_left (by decide:1<=64) _) hr.units
theorem wW{n:Nat}(h:n<=1000):n<sizeLine:=Hw h (by decide)
theorem ite2{c A B:Prop}[Decidable c](h1:c->A)(h2:¬ c->B):if c then A else B:=by
 by_cases h:c
 ·rw[if_pos h]
  exact h1 h
 ·rw[if_neg h]
  exact h2 h
def Same(H H':Hp):Prop:=∀ b o,H b=some o->H' b=some o
theorem Same.refl(H:Hp):Same H H:=λ_ _ h=>h
theorem Same.trans{H H1 H2:Hp}(a:Same H H1)(b:Same H1 H2):Same H H2:=λc o h=>b c o (a c o h)
theorem Same.free{H H':Hp}(e:Same H H'){l:Addr}(h:H' l=Option.none):H l=Option.none:=by
 cases q:H l with
 |none=>rfl
 |some o=>
  rw[e l o q] at h
  cases h
theorem Same.seq{K:Ex}{H H':Hp}{a:Addr}{xs:List V}(e:Same H H')(h:SqL K H a xs):SqL K H' a xs:=by
 rcases h with(h|⟨o,h⟩)|h
 ·exact .inl (.inl (e _ _ h))
 ·exact .inl (.inr ⟨o,e _ _ h⟩)
 ·exact .inr h
section
variable {κ:Type}[DecidableEq κ]
def valV(a8:List (κ × V))(k:κ):Option V:=(a8.find? λkv=>decide (kv.1=k)).map (·.2)
def putK(a8:List (κ × V))(k:κ)(v:V):List (κ × V):=
 if(a8.any λkv=>decide (kv.1=k))=true then a8.map (λkv=>if kv.1=k then(kv.1,v) else kv) else a8++[(k,v)]
theorem jC{p:κ × V}{r:List (κ × V)}{k:κ}(e:p.1=k):valV (p::r) k=some p.2:=by simp[valV,F9,e]
theorem jD{p:κ × V}{r:List (κ × V)}{k:κ}(e:¬ p.1=k):valV (p::r) k=valV r k:=by simp[valV,F9,e]
theorem RelO.getD{o:Option V}{u:Option Value}{d:V}{d':Value}(r:RelO o u)(rd:RelV d d'):RelV (o.getD d) (u.getD d'):=by
 cases o with
 |none=>cases u with
  |none=>exact rd
  |some _=>exact(show False from r).elim
 |some _=>cases u with
  |none=>exact(show False from r).elim
  |some _=>exact r
theorem KV.val{a8:List (κ × V)}{vs:List (κ × Value)}(r:KV a8 vs)(k:κ):RelO (valV a8 k) (valueAt vs k):=by
 unfold KV at r
 induction r with
 |nil=>exact True.intro
 |@cons p q ps qs h t ih=>
  obtain⟨h1,h2⟩:=h
  by_cases e:p.1=k
  ·have e':q.1=k:=h1.symm.trans e
   have b:valueAt (q::qs) k=some q.2:=by simp[valueAt,F9,e']
   rw[jC e,b];exact h2
  ·have e':¬ q.1=k:=λz=>e (h1.trans z)
   have b:valueAt (q::qs) k=valueAt qs k:=by simp[valueAt,F9,e']
   rw[jD e,b];exact ih
theorem KV.any{a8:List (κ × V)}{vs:List (κ × Value)}(r:KV a8 vs)(k:κ):(a8.any λkv=>decide (kv.1=k))=vs.any λkv=>decide (kv.1=k):=by
 unfold KV at r
 induction r with
 |nil=>rfl
 |cons h t ih=>rw[F8,F8,ih,h.1]
theorem KV.keys{a8:List (κ × V)}{vs:List (κ × Value)}(r:KV a8 vs):a8.map (·.1)=vs.map (·.1):=by
 unfold KV at r
 induction r with
 |nil=>rfl
 |cons h t ih=>rw[E9,E9,ih,h.1]
theorem KV.length{a8:List (κ × V)}{vs:List (κ × Value)}(r:KV a8 vs):a8.length=vs.length:=Paired.length r
end
theorem qf{P:Program}{w:World}{k:Key}{u:Value}(r:RelV (kV k) u):(bC P w).is k u=true:=by
 cases k with
 |inl i=>obtain⟨t,e⟩:=(show ∃ t,u=Value.int i t from r);subst e;exact mixKind_int P w i t
 |inr x=>obtain⟨t,e⟩:=(show ∃ t,u=Value.str x t from r);subst e;exact um P w x t
theorem qg{P:Program}{w:World}:∀ {ks:List Key} {us:List Value},Vals (ks.map kV) us->ItemsAre (bC P w) ks us
 |[],_,r=>by rw[FX] at r;cases r;exact .nil
 |k::ks,_,r=>by
  rw[E9] at r
  cases r with
  |cons h t=>exact .cons (qf h) (qg t)
abbrev KT(H:Hp):List (List Key × V)->List (List Key × Addr × Value)->Prop:=Paired λp q=>p.1=q.1/\H q.2.1=some (.tup (p.1.map kV))/\RelV p.2 q.2.2
theorem KT.val{H:Hp}{a8:List (List Key × V)}{xs:List (List Key × Addr × Value)}(r:KT H a8 xs)(k:List Key):RelO (valV a8 k) ((atKey xs k).map (·.2)):=by
 induction r with
 |nil=>exact True.intro
 |@cons p q ps qs h t ih=>
  obtain⟨h1,_,h2⟩:=h
  by_cases e:p.1=k
  ·have e':q.1=k:=h1.symm.trans e
   have b:atKey (q::qs) k=some q.2:=by simp[atKey,F9,e']
   rw[jC e,b];exact h2
  ·have e':¬ q.1=k:=λz=>e (h1.trans z)
   have b:atKey (q::qs) k=atKey qs k:=by simp[atKey,F9,e']
   rw[jD e,b];exact ih
theorem KT.keeps{H H':Hp}{a8:List (List Key × V)}{xs:List (List Key × Addr × Value)}(r:KT H a8 xs)(ht:∀ b ys,H b=some (.tup ys)->H' b=some (.tup ys)):KT H' a8 xs:=
 Paired.mapP r λ_ _ z=>⟨z.1,ht _ _ z.2.1,z.2.2⟩
section
variable {P:Program}{w:World}{H:Hp}{h:Heap}{a:Addr}
theorem qh{u:HO}(ok:HOk P w H h)(e:Rd H a u):ObjOk P w H h a u:=e.ok ok
theorem wX{a8:List (Key × V)}(ok:HOk P w H h)(e:Rd H a (.dK a8)):a8.length<=sizeLine/\(a==sysModules)=false/\∃ vs,KV a8 vs/\h.DictOf (bC P w) a vs:=
 show ObjOk P w H h a (.dK a8) from qh ok e
theorem key_of{ks:List Key}(ok:HOk P w H h)(e:H a=some (.tup (ks.map kV))):(tupleKind (bC P w)).is h ks a:=by
 obtain⟨_,its,r,o,h1,h2,n,h3⟩:=(show ObjOk P w H h a (.tup (ks.map kV)) from ok a _ e)
 exact⟨o,its.toArray,n,h1,h2,h3,by simpa using qg r⟩
theorem qi{a8:List (List Key × V)}(ok:HOk P w H h)(e:Rd H a (.dT a8)):a8.length<=sizeLine/\(a==sysModules)=false/\
  ∃ xs,KT H a8 xs/\h.DictOfH (tupleKind (bC P w)) a xs:=by
 obtain⟨z,y,xs,r,o,es,ep,h1,h2,h3,h4,h5⟩:=(show ObjOk P w H h a (.dT a8) from qh ok e)
 refine⟨z,y,xs,r,o,es,ep,h1,h2,h3,h4,λx hx=>?_,h5⟩
 have all:∀ {l:List (List Key × V)} {m:List (List Key × Addr × Value)},KT H l m->∀ x∈m,(tupleKind (bC P w)).is h x.1 x.2.1:=by
  intro l m q
  induction q with
  |nil=>intro x hx;exact nomatch hx
  |@cons p q ps qs hq t ih=>
   intro x hx
   rcases EU.mp hx with e|hx
   ·subst e
    exact key_of ok (by rw[<- hq.1];exact hq.2.1)
   ·exact ih x hx
 exact all r x hx
theorem wY{a8:List (List Key × V)}(ok:HOk P w H h)(e:H a=some (.dT a8)):a8.length<=sizeLine/\(a==sysModules)=false/\
  ∃ xs,KT H a8 xs/\h.DictOfH (tupleKind (bC P w)) a xs:=qi ok (.inl e)
end
def DGet(H:Hp)(a:Addr)(y:V)(r:Option V):Prop:=
 (∃ a8 k,Rd H a (.dK a8)/\y=kV k/\r=valV a8 k)\/∃ a8 k b,Rd H a (.dT a8)/\y= .ref b/\H b=some (.tup (k.map kV))/\r=valV a8 k
def DPut(H:Hp)(a:Addr)(y v:V)(H':Hp):Prop:=
 (∃ a8 k,H a=some (.dK a8)/\y=kV k/\a8.length<sizeLine/\H'=upd H a (.dK (putK a8 k v)))\/
 ∃ a8 k b,H a=some (.dT a8)/\y= .ref b/\H b=some (.tup (k.map kV))/\a8.length<sizeLine/\H'=upd H a (.dT (putK a8 k v))
theorem DGet.k{H:Hp}{a:Addr}{a8:List (Key × V)}{k:Key}(e:H a=some (.dK a8)):DGet H a (kV k) (valV a8 k):= .inl ⟨a8,k,.inl e,rfl,rfl⟩
theorem DGet.t{H:Hp}{a b:Addr}{a8:List (List Key × V)}{k:List Key}(e:H a=some (.dT a8))(eb:H b=some (.tup (k.map kV))):DGet H a (.ref b) (valV a8 k):= .inr ⟨a8,k,b,.inl e,rfl,eb,rfl⟩
theorem DPut.k{H:Hp}{a:Addr}{a8:List (Key × V)}{k:Key}{v:V}(e:H a=some (.dK a8))(hl:a8.length<sizeLine):DPut H a (kV k) v (upd H a (.dK (putK a8 k v))):= .inl ⟨a8,k,e,rfl,hl,rfl⟩
theorem DPut.t{H:Hp}{a b:Addr}{a8:List (List Key × V)}{k:List Key}{v:V}(e:H a=some (.dT a8))(eb:H b=some (.tup (k.map kV)))(hl:a8.length<sizeLine):
  DPut H a (.ref b) v (upd H a (.dT (putK a8 k v))):= .inr ⟨a8,k,b,e,rfl,eb,hl,rfl⟩
section
variable {X:Cx}{pins:List (Addr × Obj)}{σ:St}{H:Hp}{s:Shared}{a:Addr}{y v:V}{u r:Value}{o:Option V}{A:Around}{E:Value->Shared->Prop}
theorem Inv.big(I:Inv X pins σ H s):sysModules<s.heap.objs.size:=by
 have h:mainGlobals<s.heap.objs.size:=(I.mod.glob.keeps I.bk).lt
 exact Nat.lt_trans (by decide) h
theorem wZ{h':Heap}{t':Nat}{ob:HO}(I:Inv X pins σ H s)(mu:Mut (H a))(hs:Heap.SameBut a s.heap h')(he:∃ q,h'.get? a=some q)(new:ObjOk X.prog X.w (upd H a ob) h' a ob):
  Inv X pins σ (upd H a ob) {s with heap:=h',toks:=t'}:=
 I.write (x:=a) (e:=a) mu (.inl rfl) (λb q hb z=>(hs.2 b hb).trans z) he new
end
theorem xa{P:Program}{w:World}{H:Hp}(h:Heap)(hb:sysModules<h.objs.size):ObjOk P w H (h.push {cls:= .type "dict",data:= .dict #[]}) h.objs.size (.dT []):=
 ⟨Fp _,beq_eq_false_iff_ne.mpr (Ne.symm (E3 hb)),[],.nil,_,#[],0,Heap.get?_push_size _ rfl,⟨rfl,rfl,rfl⟩,rfl,rfl,Hx⟩
def xb:TE:=λ_ H Q=>∀ p,H p=none->Q (.ref p) (upd H p (.dT []))
section
variable {X:Cx}{pos:Pos}
theorem pe_dnewT:PE X (.Dict [] [] pos) xb:=λpins s σ H Q I h=>
 wpAny_Dict_empty ⟨.ref s.heap.objs.size,_,I.laid (a:=s.heap.objs.size) (o:= .dT []) (t':=s.toks) (λ_ _ q=>Heap.get?_push_of_some _ q) (ER _) (xa s.heap I.big),rfl,h _ (I.hok.fresh (ER _))⟩
end
structure M1(X:Cx)(o:Expr)(m:Str)(apos:Pos)(e:Expr)(cpos:Pos):Prop where
 base:attributeBase o m X.env (eval o X.env)=eval o X.env
 few:((backTo cpos (starEach [e] X.env)).all (λx=>!x.1) && (backToKw cpos (keywordEach [] X.env)).all (λx=>x.1.isSome)
  && decide (([e]:List Expr).length+([]:List Keyword).length+(if([]:List Keyword).isEmpty then 0 else 1)<30))=true
 line:(apos.endLine==cpos.line)=true
 trees:backTo cpos (starEach [e] X.env)=[(false,eval e X.env)]
structure M2(X:Cx)(o:Expr)(m:Str)(apos:Pos)(e f:Expr)(cpos:Pos):Prop where
 base:attributeBase o m X.env (eval o X.env)=eval o X.env
 few:((backTo cpos (starEach [e,f] X.env)).all (λx=>!x.1) && (backToKw cpos (keywordEach [] X.env)).all (λx=>x.1.isSome)
  && decide (([e,f]:List Expr).length+([]:List Keyword).length+(if([]:List Keyword).isEmpty then 0 else 1)<30))=true
 line:(apos.endLine==cpos.line)=true
 trees:backTo cpos (starEach [e,f] X.env)=[(false,eval e X.env),(false,eval f X.env)]
section
variable {X:Cx}{pins:List (Addr × Obj)}{σ:St}{H:Hp}{s:Shared}{a:Addr}{y d:V}{u r:Value}{o:Option V}{A:Around}{E:Value->Shared->Prop}
theorem xc{Q:Value->Shared->Prop}(hu:A.units+1<cLine)(I:Inv X pins σ H s)(g:DGet H a y o)(ry:RelV y u)(rd:RelV d r)(h:∀ w' s',Inv X pins σ H s'->RelV (o.getD d) w'->Q w' s'):
  wpAny (model X.prog X.w) A (call (.builtin "dict.get") [.ref a,u,r]) Q E s:=by
 rcases g with⟨a8,k,e,ey,l⟩|⟨a8,k,b,e,ey,eb,l⟩
 ·subst ey
  obtain⟨z,hd,vs,rel,dd⟩:=wX I.hok e
  refine call_meetsIn PySem.F.slot_dict_get dd.typeIs PySem.F.entry_dict_get (PySem.F.args_dict_get_3 _ _ _) (meets_dict_get_default (bC X.prog X.w) a (qf ry) hd r) ⟨_,dd.mapOf,h _ _ (I.tok _) ?_⟩
  rw[l]
  exact(rel.val k).getD rd
 ·subst ey
  cases(show u=Value.ref b from ry)
  obtain⟨z,hd,xs,rel,dd⟩:=qi I.hok e
  refine call_meetsIn PySem.F.slot_dict_get dd.typeIs PySem.F.entry_dict_get (PySem.F.args_dict_get_3 _ _ _) (meetsH_dict_get_default (tupleKind (bC X.prog X.w)) a b hd r) ⟨tupleKind_room_in1 hu,k,xs,key_of I.hok eb,dd,h _ _ (I.tok _) ?_⟩
  rw[l]
  exact(rel.val k).getD rd
end
end L2
end
section
open PySem PySem.Spec PyProof.Rows L2
namespace Exc
open PySem PySem.Spec PyProof.Rows PySem.W L2
def aP:List Value->Bool
 | .ref _::r=>aP r
 |l=>l==[.type "ValueError",.type "Exception",.type "BaseException",.type "object"]
theorem qj(self:Value):∀ {l:List Value},aP l=true->refuseLoop self "__setattr__" l=pure ()
 | .ref c::r,e=>by rw[refuseLoop_ref];exact qj self (by unfold aP at e;exact e)
 |[],e=>by simp[aP] at e
 | .type n::r,e=>by
  have e':(Value.type n::r)=[.type "ValueError",.type "Exception",.type "BaseException",.type "object"]:=by simpa[aP] using e
  rw[e']
  exact PySem.F.store_ValueError.passes self
 | .none::r,e=>by simp[aP] at e
 | .bool _::r,e=>by simp[aP] at e
 | .int _ _::r,e=>by simp[aP] at e
 | .float _ _::r,e=>by simp[aP] at e
 | .str _ _::r,e=>by simp[aP] at e
 | .bytes _ _::r,e=>by simp[aP] at e
 | .builtin _::r,e=>by simp[aP] at e
theorem gh{T:String}(hT:[Value.type "ValueError",.type "Exception",.type "BaseException",.type "object"].contains (.type T)=true):∀ {l:List Value},aP l=true->l.contains (.type T)=true
 | .ref c::r,e=>by rw[Hy,gh hT (l:=r) (by unfold aP at e;exact e),GY]
 |[],e=>by simp[aP] at e
 | .type n::r,e=>by
  have e':(Value.type n::r)=[.type "ValueError",.type "Exception",.type "BaseException",.type "object"]:=by simpa[aP] using e
  rw[e'];exact hT
 | .none::r,e=>by simp[aP] at e
 | .bool _::r,e=>by simp[aP] at e
 | .int _ _::r,e=>by simp[aP] at e
 | .float _ _::r,e=>by simp[aP] at e
 | .str _ _::r,e=>by simp[aP] at e
 | .bytes _ _::r,e=>by simp[aP] at e
 | .builtin _::r,e=>by simp[aP] at e
section
variable {prog:Program}{w:World}{A:Around}{E:Value->Shared->Prop}{s:Shared}{K:Ex}{x C:Addr}{ox:Obj}{cd:ClassData}{name:Str}{v:Value}{vs:Array Value}
theorem xg{Q:Unit->Shared->Prop}(X:K.In s.heap)(hx:s.heap.get? x=some ox)(j8:ox.cls= .ref C)(IT:ox.data= .fields vs)(hd:ox.dict=none)(hc:clsIn K C=some cd)(hm:aP cd.mro=true)(hh:cd.hasDict=true)
  (hs:findIn K (.ref C) "__setattr__"=some (some (.builtin "object.__setattr__"))) (hf:findIn K (.ref C) name=some none)
  (h:∀ h',h'.get? x=some {ox with dict:=some s.heap.objs.size}->h'.Ns1 s.heap.objs.size (λy=>if y=name then some v else none)->(∀ b o,b≠x->s.heap.get? b=some o->h'.get? b=some o)->∀ tk,Q () {s with heap:=h',toks:=tk}):
  wpAny (model prog w) A (setAttr (.ref x) name v) Q E s:=by
 have hn:notCls ox=true:=by unfold notCls;rw[IT]
 have I:InstAt s.heap x ox C none:=⟨hx,j8,hn,by rw[hd];trivial⟩
 refine set_plain X I hs ?_
 have SF:=PySem.F.store_object
 have ne:cd.mro.isEmpty=false:=by cases q:cd.mro with|nil=>rw[q] at hm;simp[aP] at hm|cons _ _=>rfl
 have sub:Looks (model prog w) s.heap (isInstance (.ref x) (.type "object")) true:=I.type.andThen (looks_mroIn X (by unfold mroIn;rw[hc,GZ,if_neg (by rw[ne];decide),gh (by decide+kernel) hm]))
 refine codeAny_call_builtin SF.slot.plain SF.entry (@check_slot (model prog w) _ _ _ "object.__setattr__" "object" "__setattr__" (.ref x) [.str name s.toks,v] [] _ SF.kind SF.split sub (SF.args (.ref x) (.str name s.toks) v) ?_)
 have LJ:Looks (model prog w) s.heap (mroOf (.ref C)) cd.mro:=(looks_clsIn X hc).andThen .now
 rw[osa_eq,refuse_eq]
 refine wpAny_bind (wpAny_bind (I.type.here (s:={s with toks:=s.toks+1}) (wpAny_bind (LJ.here (s:={s with toks:=s.toks+1}) ?_))))
 rw[qj _ hm]
 refine wpAny_pure (wpAny_bind (I.type.here (s:={s with toks:=s.toks+1}) (wpAny_bind ((looks_findIn X hf).here (s:={s with toks:=s.toks+1}) (wpAny_bind (Looks.now.here (s:={s with toks:=s.toks+1}) ?_))))))
 obtain⟨oc,OM,ON,osl⟩:=ox
 dsimp only at j8 hd IT
 subst j8 hd IT
 refine wpAny_bind (wpAny_pure (wpAny_bind (wpAny_bind (wpAny_loadPart hx (wpAny_bind ((looks_clsIn X hc).here (s:={s with toks:=s.toks+1}) ?_))))))
 rw[hh]
 rw[if_neg (by decide)]
 have hx₁:(s.heap.push {cls:= .type "dict",data:= .dict #[]}).get? x=some ⟨.ref C,none,.fields vs,osl⟩:=Heap.get?_push_of_some _ hx
 have NN:x≠s.heap.objs.size:=E3 (Heap.lt_size hx)
 show wpAny _ _ (do
  let d <- alloc {cls:=Value.type "dict",data:=Data.dict #[]}
  update x λo=>{cls:=o.cls,dict:=some d,data:=o.data,slots:=o.slots}
  dictMade (.ref C) x d) _ _ _
 refine wpAny_bind (wpAny_alloc' ?_)
 refine wpAny_bind (wpAny_update' hx₁ ?_)
 refine wpAny_pure ?_
 have OO:((s.heap.push {cls:= .type "dict",data:= .dict #[]}).update x λo=>{cls:=o.cls,dict:=some s.heap.objs.size,data:=o.data,slots:=o.slots}).get? s.heap.objs.size
   =some {cls:= .type "dict",data:= .dict #[]}:=
  (Heap.get?_update_ne _ _ _ _ NN.symm).trans (Heap.get?_push_at rfl rfl)
 have OP:((s.heap.push {cls:= .type "dict",data:= .dict #[]}).update x λo=>{cls:=o.cls,dict:=some s.heap.objs.size,data:=o.data,slots:=o.slots}).Ns s.heap.objs.size (λ_=>none):=
  ⟨_,#[],_,OO,rfl,λe he=>absurd he (by simp),λ_=>rfl⟩
 show wpAny _ _ (Builtin.ObjectAttr.storeInDict s.heap.objs.size (.str name s.toks) name v) _ _ _
 unfold Builtin.ObjectAttr.storeInDict Builtin.ObjectAttr.newKeyGuard
 refine wpAny_bind (wpAny_pure (wpAny_bind (wpAny_nsSet1 (Heap.Ns1.of_empty OP) λh' k8 hs=>?_)))
 obtain⟨oD,OC,OD,Ly,Lz,LA⟩:=k8.count (Within.cons name v Within.nil)
 refine wpAny_bind (wpAny_lookBehind Ly (by rw[Lz];exact pastItsLine_dict (E4 LA (by rw[EW,Gk,sizeLine_eq];lia))) ?_)
 refine wpAny_pure (h h' ?_ k8 (λb o hb q=>?_) _)
 ·exact(hs.2 x NN).trans (Heap.get?_update_self _ hx₁ rfl)
 ·exact(hs.2 b (E3 (Heap.lt_size q))).trans ((Heap.get?_update_ne _ _ _ _ hb).trans (Heap.get?_push_of_some _ q))
theorem xh{Q:Value->Shared->Prop}{rest:List Value}{t0:Addr}{a1 a2 a3 a4 a5:Value}(X:K.In s.heap)(hx:s.heap.get? x=some ox)(j8:ox.cls= .ref C)(IT:ox.data= .fields #[.ref t0,a1,a2,a3,a4,a5])(hc:clsIn K C=some cd)(hm:aP cd.mro=true)(hl:rest.length<=sizeLine)
  (h:∀ h',h'.get? x=some {ox with data:= .fields #[.ref s.heap.objs.size,a1,a2,a3,a4,a5]}->(∀ b o,b≠x->s.heap.get? b=some o->h'.get? b=some o)->Q .none {s with heap:=h'}):
  wpAny (model prog w) A (call (.builtin "ValueError.__init__") (.ref x::rest)) Q E s:=by
 have F:=PySem.F.excBase_ValueError
 have hn:notCls ox=true:=by unfold notCls;rw[IT]
 have ht:Looks (model prog w) s.heap (typeOf (.ref x)) (.ref C):=j8 ▸ (Looks.ld hx).andThen .now
 have ne:cd.mro.isEmpty=false:=by cases q:cd.mro with|nil=>rw[q] at hm;simp[aP] at hm|cons _ _=>rfl
 have sub:Looks (model prog w) s.heap (isInstance (.ref x) (.type "ValueError")) true:=ht.andThen (looks_mroIn X (by unfold mroIn;rw[hc,GZ,if_neg (by rw[ne];decide),gh (by decide+kernel) hm]))
 have OQ:∀ {Q:Unit->Shared->Prop} {E:Value->Shared->Prop} {A:Around},Q () s->wpAny (model prog w) A (checkBuiltinCall "ValueError.__init__" ⟨.ref x::rest,[]⟩) Q E s:=λ{Q E A} hq=>by
  have LK:=F.noStar
  simp only[checkBuiltinCall,F.initKind,F.initSplit,F.initRow]
  refine wpAny_bind (sub.here ?_)
  obtain⟨hp,g,d,t,os⟩:=s
  have Lc:=looks_clsIn (M:=model prog w) X hc
  repeat(first|(with_reducible refine wpAny_loadPart_at hx ?_;rw[j8])|(with_reducible refine Lc.here ?_)|wp_step)
  refine wpAny_onRaise ?_
  rw[show ∀ (a b:String) (n:Nat),Bind.check ⟨.positional,"*","ValueError",.self,[⟨"args",.varPos,false⟩]⟩ a b n (Gm (λx=>x.fst) ({pos:=Value.ref x::rest}:Args).kw)=pure () from
   λa b n=>check_star_args _ _ _ _ _ _]
  exact wpAny_pure hq
 refine wpAny_call (codeAny_call_builtin F.init.plain F.initEntry (OQ ?_))
 obtain⟨hp,g,d,t,os⟩:=s
 obtain⟨oc,OM,ON,osl⟩:=ox
 dsimp only at j8 IT hx h
 subst j8 IT
 wp_walk
 have hx₁:=Heap.get?_push_of_some {cls:=Value.type "tuple",data:=Data.seq rest.toArray} hx
 refine h _ ?_ (λb o hb q=>?_)
 ·rw[Heap.get?_update_self _ hx₁ rfl];rfl
 ·rw[Heap.get?_update_other _ _ (Ne.symm hb)]
  exact Heap.get?_push_of_some _ q
end
abbrev veLine:List Value:=[.type "ValueError",.type "Exception",.type "BaseException",.type "object"]
section
variable {prog:Program}{w:World}{A:Around}{E:Value->Shared->Prop}{h:Heap}{g:Array GenState}{d:Drawn}{t:Nat}{os:OsState}{K:Ex}
variable {nm q:Str}{C N fI:Addr}{bs bm:List Value}{hdct:Bool}{sn:List Str}{sub:List Value}{ab:Bool}{col:Option Bool}{dd:Option Addr}{k0 k1 k2 k3 k5:Option Value}{rest:List Value}
theorem xi{Q:Fin->Shared->Prop}(X:K.In h)(T:OwnTail h veLine bm)(hC:h.get? C=some (excClassObj nm q C N bs bm hdct sn sub ab col dd k0 k1 k2 k3 k5 "ValueError.__new__"))
  (hi:findIn K (.ref C) "__init__"=some (some (.ref fI))) (hf:typeIn K (.ref fI)=some (.type "function"))
  (hq:∀ h' e,Heap.MadeExcOf h h' e (.ref C) rest->wpAny (model prog w) A (call (.ref fI) (.ref e::rest)) (λr s'=>r= .none/\Q (.done (.ret (.ref e))) s') E ⟨h',g,d,t,os⟩) (hl:rest.length<=sizeLine):
  wpAny (model prog w) A (Builtin.«type.__call__» ⟨.ref C::rest,[]⟩) Q E ⟨h,g,d,t,os⟩:=by
 have F:=PySem.F.excBase_ValueError
 repeat(first|(with_reducible refine wpAny_loadPart_at hC ?_)|(with_reducible refine wpAny_madeBy_exc hC ?_)|wp_step)
 refine codeAny_call_builtin_code (Code.quiet_builtin _ F.quiet) (wpAny_check_new_subT F T hC (codeAny_exc_new_subT F T hC ?_ hl))
 have kp:∀ b o,h.get? b=some o->((h.push {cls:= .type "tuple",data:= .seq rest.toArray}).push {cls:= .ref C,data:= .fields #[.ref h.objs.size,.none,.none,.none,.bool false,.none]}).get? b=some o:=λb o e=>Heap.get?_push_of_some _ (Heap.get?_push_of_some _ e)
 have OR:=kp _ _ hC
 have X1:K.In _:=X.keeps kp
 have he:((h.push {cls:= .type "tuple",data:= .seq rest.toArray}).push {cls:= .ref C,data:= .fields #[.ref h.objs.size,.none,.none,.none,.bool false,.none]}).get? (h.objs.size+1)=some {cls:= .ref C,data:= .fields #[.ref h.objs.size,.none,.none,.none,.bool false,.none]}:=by heap_get
 have OS:(Value.ref C::bm).contains (.ref C)=true:=by simp
 have L1:=looks_findIn (M:=model prog w) X1 hi
 have L2:=bind_fn (M:=model prog w) X1 (.ref (h.objs.size+1)) hf
 show wpAny _ _ _ _ _ _
 unfold isInstance
 repeat(first|(with_reducible refine wpAny_loadPart_at he ?_)|(with_reducible refine wpAny_isSubtype_exc OR ?_;rw[OS])|wp_step)
 refine L1.at ?_
 refine wpAny_holding (wpAny_bind (L2.at ?_))
 refine wpAny_bind (wpAny_mono (hq _ (h.objs.size+1) ⟨kp,Heap.get?_none_of_le (FV _),h.objs.size,he,Heap.get?_none_of_le (ER _),Heap.get?_push_of_some _ (Heap.get?_push_at rfl rfl)⟩) (λr s' hr=>?_) λ_ _ x=>x)
 obtain⟨rfl,hQ⟩:=hr
 refine wpAny_pure ?_
 exact wpAny_pure hQ
theorem xj{Q:Value->Shared->Prop}(X:K.In h)(T:OwnTail h veLine bm)(hC:h.get? C=some (excClassObj nm q C N bs bm hdct sn sub ab col dd k0 k1 k2 k3 k5 "ValueError.__new__"))
  (hi:findIn K (.ref C) "__init__"=some (some (.ref fI))) (hf:typeIn K (.ref fI)=some (.type "function"))
  (hq:∀ h' e,Heap.MadeExcOf h h' e (.ref C) rest->wpAny (model prog w) (A.under (.builtin "type.__call__" ⟨.ref C::rest,[]⟩)) (call (.ref fI) (.ref e::rest)) (λr s'=>r= .none/\Q (.ref e) s') E ⟨h',g,d,t,os⟩) (hl:rest.length<=sizeLine):
  wpAny (model prog w) A (call (.ref C) rest) Q E ⟨h,g,d,t,os⟩:=by
 have f1:=tc_lookup
 have f2:=tc_bind (.ref C)
 have hT:(⟨h,g,d,t,os⟩:Shared).TypeIs (.ref C) "type":=⟨_,hC,rfl⟩
 refine wpAny_call (codeAny_of_tree ?_)
 show wpAny _ _ (callAny (.ref C) _) _ _ _
 repeat(any_goals (first|(with_reducible refine wpAny_loadPart_at hC ?_)|assumption|wp_step))
 exact⟨rfl,codeAny_call_builtin_at (Code.quiet_builtin _ (by decide+kernel)) entry_typeCall (wpAny_check_type_call_sub hC (xi X T hC hi hf (λh' e hm=>hq h' e hm) hl))⟩
end
section
variable {prog:Program}{w:World}{A:Around}{E:Value->Shared->Prop}{s:Shared}{env:Env}
variable {nm q:Str}{C N:Addr}{bs bm:List Value}{hdct:Bool}{sn:List Str}{sub:List Value}{ab:Bool}{col:Option Bool}{dd:Option Addr}{k0 k1 k2 k3 k5:Option Value}{newId:String}
theorem xk{x:Sem Value}{Q:Flow->Shared->Prop}(b9:bm.contains (.type "BaseException")=true)(hh:A.handled=none)
  (h:wpAny (model prog w) A x (λv s₁=>∃ e t od sl,v= .ref e/\s₁.heap.get? C=some (excClassObj nm q C N bs bm hdct sn sub ab col dd k0 k1 k2 k3 k5 newId)/\
   s₁.heap.get? e=some ⟨.ref C,od,.fields #[.ref t,.none,.none,.none,.bool false,.none],sl⟩/\E (.ref e) s₁) E s):
  wpAny (model prog w) A (raiseStmt env (some x) none) Q E s:=by
 have OT:(Value.ref C::bm).contains (.type "BaseException")=true:=by rw[Hy,b9,GY]
 unfold raiseStmt
 refine wpAny_bind (wpAny_mono h (λv s₁ h₁=>?_) λ_ _ x=>x)
 obtain⟨e,t,od,sl,rfl,hC,he,hE⟩:=h₁
 obtain⟨hp,g,d,tk,os⟩:=s₁
 repeat(first|(with_reducible refine wpAny_loadPart_at he ?_)|(with_reducible refine wpAny_loadPart_at hC ?_)|(with_reducible refine wpAny_isSubtype_exc hC ?_;rw[OT])|wp_step)
 exact wpAny_raiseNew_none hh hE
theorem jE{x:Expr}{pos:Pos}{Q:Flow->Shared->Prop}(b9:bm.contains (.type "BaseException")=true)(hh:A.handled=none)
  (h:wpAny (model prog w) A (eval x env) (λv s₁=>∃ e t od sl,v= .ref e/\s₁.heap.get? C=some (excClassObj nm q C N bs bm hdct sn sub ab col dd k0 k1 k2 k3 k5 newId)/\
   s₁.heap.get? e=some ⟨.ref C,od,.fields #[.ref t,.none,.none,.none,.bool false,.none],sl⟩/\E (.ref e) s₁) E s):
  wpAny (model prog w) A (exec (.Raise (some x) none pos) env) Q E s:=by
 rw[arm_exec_Raise]
 show wpAny (model prog w) A (do standAt pos;raiseStmt env (some (do let v <- eval x env;standAt pos;pure v)) none) Q E s
 exact wpAny_bind (wpAny_standAt (xk b9 hh (wpAny_bind (wpAny_mono h (λv s₁ h₁=>wpAny_bind (wpAny_standAt (wpAny_pure h₁))) λ_ _ x=>x))))
end
def ExAt(h:Heap)(e C:Addr)(od:Option Addr)(T:Addr)(fl:Value):Prop:=
 ∃ sl vs oT ts,h.get? e=some ⟨.ref C,od,.fields vs,sl⟩/\vs[1]?=some (.ref T)/\T≠e/\h.get? T=some oT/\oT.data= .fields ts/\ts[3]?=some fl
structure Stay(fs ex:List Addr)(h h':Heap):Prop where
 keep:∀ b o,h.get? b=some o->b ∉ ex->b ∉ fs->h'.get? b=some o
 slot:∀ b o,h.get? b=some o->b ∉ ex->∃ sl,h'.get? b=some {o with slots:=sl}
 there:∀ b o,h.get? b=some o->∃ o',h'.get? b=some o'
theorem Stay.trans{fs ex JP:List Addr}{h h1 h2:Heap}(a:Stay fs ex h h1)(b:Stay fs JP h1 h2):Stay fs (ex++JP) h h2:=
  ⟨λc o e n m=>b.keep c o (a.keep c o e (λz=>n (FJ _ z)) m) (λz=>n (E7 _ z)) m,
   λc o e n=>by
    obtain⟨s1,e1⟩:=a.slot c o e (λz=>n (FJ _ z))
    obtain⟨s2,e2⟩:=b.slot c _ e1 (λz=>n (E7 _ z))
    exact⟨s2,e2⟩,
   λc o e=>by
    obtain⟨o1,e1⟩:=a.there c o e
    exact b.there c o1 e1⟩
section
variable {M:Model}{A:Around}{E:Value->Shared->Prop}{s:Shared}{env:Env}{outer:List Env}{base:Heap}{L e C T:Addr}{od:Option Addr}
theorem xm{sl:Array (Option Value)}{vs:Array Value}{Q:Unit->Shared->Prop}(A':A.frames=some (env::outer))(hl:s.heap.FunFrames base (env::outer))(hf:env.frame=some L)
  (he:s.heap.get? e=some ⟨.ref C,od,.fields vs,sl⟩) (h1:vs[1]?=some .none)
  (h:∀ h' T,ExAt h' e C od T (rawInt L)->s.heap.objs.size<=T->Stay (frs (env::outer)) [e] s.heap h'->Q () {s with heap:=h'}):wpAny M A (noteFrame (.ref e) env) Q E s:=by
 have g6:1<vs.size:=(GD.mp h1).1
 have IU:e ∉ (env::outer).filterMap (·.frame):=λhm=>by
  obtain⟨_,o,ho,hnf⟩:=hl.mem hm
  rw[he] at ho;injection ho with ho;subst ho;exact hnf vs rfl
 unfold noteFrame
 simp only[hf]
 refine wpAny_bind (wpAny_field he rfl h1 ?_)
 rw[if_neg (by decide)]
 refine wpAny_bind (wpAny_frameOf_fun A' hl hf λh₁ hs₁=>wpAny_bind (wpAny_entryPlaceOf λpl b_=>?_))
 unfold EntryCells.newEntry newFields
 refine wpAny_bind (wpAny_newObj_type ?_ (b_.sizeOk5 _ _ _ _ _))
 have he₁:h₁.get? e=some ⟨.ref C,od,.fields vs,sl⟩:=(hs₁.2.1 e IU).trans he
 have fresh:h₁.get? h₁.objs.size=none:=Heap.get?_none_of_le (ER _)
 generalize J2:({cls:= .type "traceback",dict:=none,data:= .fields ([Value.none,.ref L,.none,rawInt L,.none]++(if pl.isEmpty then FB 6 Value.none else pl)).toArray}:Obj)=oT
 have he₂:=Heap.get?_push_of_some (h:=h₁) oT he₁
 have IV:h₁.objs.size≠e:=FT (Heap.lt_size he₁)
 refine wpAny_setField he₂ rfl g6 (h _ h₁.objs.size ?_ ?_ ?_)
 ·refine⟨sl,vs.setIfInBounds 1 (.ref h₁.objs.size),oT,([Value.none,.ref L,.none,rawInt L,.none]++(if pl.isEmpty then FB 6 Value.none else pl)).toArray,?_,by simp[g6],IV,?_,by rw[<- J2],by simp⟩
  ·rw[Heap.get?_update_self _ he₂ rfl];rfl
  ·rw[Heap.get?_update_other _ _ (Ne.symm IV)]
   exact Heap.get?_push_size h₁ (by rw[<- J2];rfl)
 ·exact Gz hs₁.1.symm
 ·have kp:∀ b o,b≠e->h₁.get? b=some o->((h₁.push oT).update e (Obj.mapFields (·.setIfInBounds 1 (Value.ref h₁.objs.size)))).get? b=some o:=λb o hb z=>by
   rw[Heap.get?_update_other _ _ (Ne.symm hb)]
   exact Heap.get?_push_of_some _ z
  refine⟨λb o q n m=>kp b o (λz=>n (by simp[z])) ((hs₁.2.1 b m).trans q),λb o q n=>?_,λb o q=>?_⟩
  ·obtain⟨u8,z⟩:=hs₁.2.2 b o q
   exact⟨u8,kp b _ (λz=>n (by simp[z])) z⟩
  ·by_cases hb:b=e
   ·subst hb;exact⟨_,Heap.get?_update_self _ he₂ rfl⟩
   ·obtain⟨u8,z⟩:=hs₁.2.2 b o q
    exact⟨_,kp b _ hb z⟩
theorem xn{Q:Unit->Shared->Prop}(A':A.frames=some (env::outer))(hl:s.heap.FunFrames base (env::outer))(hf:env.frame=some L)(hx:ExAt s.heap e C od T .none)
  (h:∀ h' T',ExAt h' e C od T' (rawInt L)->s.heap.objs.size<=T'->Stay (frs (env::outer)) [T,e] s.heap h'->Q () {s with heap:=h'}):wpAny M A (noteFrame (.ref e) env) Q E s:=by
 obtain⟨sl,vs,oT,ts,he,h1,IV,hT,A_,h3⟩:=hx
 have g6:1<vs.size:=(GD.mp h1).1
 have K2:3<ts.size:=(GD.mp h3).1
 have IU:e ∉ (env::outer).filterMap (·.frame):=λhm=>by
  obtain⟨_,o,ho,hnf⟩:=hl.mem hm
  rw[he] at ho;injection ho with ho;subst ho;exact hnf vs rfl
 unfold noteFrame
 simp only[hf]
 refine wpAny_bind (wpAny_field he rfl h1 ?_)
 rw[if_pos (show(Value.ref T !=Value.none)=true from by simp)]
 refine wpAny_bind (wpAny_field hT A_ h3 ?_)
 rw[if_neg (show¬ ((Value.none==rawInt L)=true) from by simp[rawInt])]
 refine wpAny_bind (wpAny_setField hT A_ K2 ?_)
 have other:∀ b,b≠T->(s.heap.update T (Obj.mapFields (·.setIfInBounds 3 Value.none))).get? b=s.heap.get? b:=λb hb=>Heap.get?_update_other _ _ (Ne.symm hb)
 have nT:∀ b o,s.heap.get? b=some o->(∀ vs,o.data≠.fields vs)->b≠T:=λb o hb hnf q=>by
  rw[q,hT] at hb;injection hb with hb;subst hb;exact hnf ts A_
 have OU:(s.heap.update T (Obj.mapFields (·.setIfInBounds 3 Value.none))).FunFrames base (env::outer):=hl.of_keeps λb o hb hnf=>⟨o,(other b (nT b o hb hnf)).trans hb,rfl⟩
 have OV:∃ o',(s.heap.update T (Obj.mapFields (·.setIfInBounds 3 Value.none))).get? T=some o':=⟨_,Heap.get?_update_self _ hT (Obj.isFreed_of_fields (Obj.data_mapFields A_ _))⟩
 refine wpAny_bind (wpAny_frameOf_fun A' OU hf λh₁ hs₁=>wpAny_bind (wpAny_entryPlaceOf λpl b_=>?_))
 unfold EntryCells.newEntry newFields
 refine wpAny_bind (wpAny_newObj_type ?_ (b_.sizeOk5 _ _ _ _ _))
 have he₁:h₁.get? e=some ⟨.ref C,od,.fields vs,sl⟩:=(hs₁.2.1 e IU).trans ((other e (Ne.symm IV)).trans he)
 have fresh:h₁.get? h₁.objs.size=none:=Heap.get?_none_of_le (ER _)
 generalize J2:({cls:= .type "traceback",dict:=none,data:= .fields ([Value.ref T,.ref L,.none,rawInt L,.none]++(if pl.isEmpty then FB 6 Value.none else pl)).toArray}:Obj)=LL
 have he₂:=Heap.get?_push_of_some (h:=h₁) LL he₁
 have J3:h₁.objs.size≠e:=FT (Heap.lt_size he₁)
 refine wpAny_setField he₂ rfl g6 (h _ h₁.objs.size ?_ ?_ ?_)
 ·refine⟨sl,vs.setIfInBounds 1 (.ref h₁.objs.size),LL,([Value.ref T,.ref L,.none,rawInt L,.none]++(if pl.isEmpty then FB 6 Value.none else pl)).toArray,?_,by simp[g6],J3,?_,by rw[<- J2],by simp⟩
  ·rw[Heap.get?_update_self _ he₂ rfl];rfl
  ·rw[Heap.get?_update_other _ _ (Ne.symm J3)]
   exact Heap.get?_push_size h₁ (by rw[<- J2];rfl)
 ·exact Gz (hs₁.1.trans (Heap.size_after_update _ _ _)).symm
 ·have kp:∀ b o,b≠e->h₁.get? b=some o->((h₁.push LL).update e (Obj.mapFields (·.setIfInBounds 1 (Value.ref h₁.objs.size)))).get? b=some o:=λb o hb z=>by
   rw[Heap.get?_update_other _ _ (Ne.symm hb)]
   exact Heap.get?_push_of_some _ z
  refine⟨λb o q n m=>kp b o (λz=>n (by simp[z])) ((hs₁.2.1 b m).trans ((other b (λz=>n (by simp[z]))).trans q)),λb o q n=>?_,λb o q=>?_⟩
  ·obtain⟨u8,z⟩:=hs₁.2.2 b o ((other b (λz=>n (by simp[z]))).trans q)
   exact⟨u8,kp b _ (λz=>n (by simp[z])) z⟩
  ·by_cases hb:b=e
   ·subst hb;exact⟨_,Heap.get?_update_self _ he₂ rfl⟩
   ·have:∃ o',(s.heap.update T (Obj.mapFields (·.setIfInBounds 3 Value.none))).get? b=some o':=by
     by_cases hb:b=T
     ·rw[hb];exact OV
     ·exact⟨o,(other _ hb).trans q⟩
    obtain⟨o',q'⟩:=this
    obtain⟨u8,z⟩:=hs₁.2.2 b o' q'
    exact⟨_,kp b _ hb z⟩
theorem qk{fl:Value}{Q:Unit->Shared->Prop}(hx:ExAt s.heap e C od T fl)(h:∀ h',ExAt h' e C od T .none->Stay [] [T] s.heap h'->Q () {s with heap:=h'}):wpAny M A (setFlight (.ref e) none) Q E s:=by
 obtain⟨sl,vs,oT,ts,he,h1,IV,hT,A_,h3⟩:=hx
 have K2:3<ts.size:=(GD.mp h3).1
 unfold setFlight
 refine wpAny_bind (wpAny_field he rfl h1 ?_)
 rw[if_pos (show(Value.ref T !=Value.none)=true from by simp)]
 refine wpAny_setField hT A_ K2 (h _ ?_ ?_)
 ·exact⟨sl,vs,_,_,(Heap.get?_update_other _ _ IV).trans he,h1,IV,Heap.get?_update_self _ hT (Obj.isFreed_of_fields (Obj.data_mapFields A_ _)),Obj.data_mapFields A_ _,by simp[K2]⟩
 ·have other:∀ b o,b ∉ [T]->s.heap.get? b=some o->(s.heap.update T (Obj.mapFields (·.setIfInBounds 3 ((none:Option Addr).elim Value.none λf=>rawInt f)))).get? b=some o:=λb o hb q=>(Heap.get?_update_other _ _ (λz=>hb (by simp[z]))).trans q
  refine⟨λb o q n _=>other b o n q,λb o q n=>⟨o.slots,other b o n q⟩,λb o q=>?_⟩
  by_cases hb:b=T
  ·subst hb;exact⟨_,Heap.get?_update_self _ hT (Obj.isFreed_of_fields (Obj.data_mapFields A_ _))⟩
  ·exact⟨o,other b o (by simp[hb]) q⟩
end
def CX1(P:Program)(w:World):CXT:=λouter H s E ev s'=>∃ e C od T H',ev= .ref e/\s'.os=s.os/\AllBare s'.gens/\Un (frs outer) [] H H' s.heap s'.heap/\HOk P w H' s'.heap/\ExAt s'.heap e C od T .none/\s.heap.get? e=none/\s.heap.get? T=none/\H' e=none/\H' T=none/\E (.ref C) od H'
theorem gj{P:Program}{w:World}{H:Hp}{h h':Heap}{fs ex:List Addr}(x:HOk P w H h)(st:Stay fs ex h h')(hf:∀ b∈fs,H b=none)(he:∀ b∈ex,H b=none):HOk P w H h':=λa o q=>
 (x a o q).stay (λb u hb r=>by
  have hn:H b≠none:=by
   rcases hb with rfl|hb
   ·rw[q];exact λz=>nomatch z
   ·rw[hb];exact λz=>nomatch z
  exact st.keep b u r (λz=>hn (he b z)) (λz=>hn (hf b z))) (λ_ q=>q) λ_ _ q=>q
theorem gk{fs p6 ex:List Addr}{H H':Hp}{h h1 h2:Heap}(u:Un fs [] H H' h h1)(st:Stay p6 ex h1 h2)(f7:∀ b∈ex,h.get? b=none)(OW:∀ b∈p6,b∈fs\/h.get? b=none):Un fs [] H H' h h2 where
 keep:=λb o q n hb hx=>st.keep b o (u.keep b o q n hb hx) (λz=>by rw[f7 b z] at q;cases q) (λz=>(OW b z).elim hb λy=>by rw[y] at q;cases q)
 slot:=λb o q n hb hx=>by
  obtain⟨sl,e1⟩:=u.slot b o q n hb hx
  obtain⟨u8,e2⟩:=st.slot b _ e1 (λz=>by rw[f7 b z] at q;cases q)
  exact⟨u8,e2⟩
 free:=u.free
 there:=λb o q hx=>by
  obtain⟨o1,e1⟩:=u.there b o q hx
  exact st.there b o1 e1
 tups:=u.tups
 frzs:=u.frzs
 tbls:=u.tbls
section
variable {P:Program}{w:World}{K:Ex}{mg:Str->Option Value}{base:Heap}{N:List Str}{qual:Str}{scope:Scope}{f:Addr}{cd:Value}{A:Around}{outer:List Env}{s:Shared}{H:Hp}{E E':XK}
theorem ql{b:Addr}(hb:b∈frs (envOfC qual scope s.heap.objs.size f cd::outer)):b∈frs outer\/s.heap.get? b=none:=by
 unfold frs at hb
 rw[Gx] at hb
 rcases EU.mp (show b∈s.heap.objs.size::outer.filterMap (·.frame) from hb) with e|e
 ·rw[e];exact .inr (Heap.get?_none_of_le (ER _))
 ·exact .inl e
theorem qm{pins:List (Addr × Obj)}{σ:L2.St}{H1:Hp}{s1:Shared}{e C:Addr}{od:Option Addr}{sl:Array (Option Value)}{vs:Array Value}(I:Inv (cxOf (CX1 P w) P w K mg base N qual scope f cd A outer s H E') pins σ H1 s1)
  (he:s1.heap.get? e=some ⟨.ref C,od,.fields vs,sl⟩) (h1:vs[1]?=some .none) (He:H1 e=none) (ne:s.heap.get? e=none) (hE:E' (.ref C) od H1):(cxOf (CX1 P w) P w K mg base N qual scope f cd A outer s H E').xe (.ref e) s1:=by
 show wpAny _ _ (leaving _ _) _ _ _
 unfold leaving
 refine wpAny_bind (xm I.ok.frames I.stack rfl he h1 λh2 T2 J4 J5 IM=>qk (s:={s1 with heap:=h2}) J4 λh3 LM Iy=>?_)
 have J6:s1.heap.get? T2=none:=Heap.get?_none_of_le J5
 have f1:∀ b,s1.heap.get? b=none->s.heap.get? b=none:=λb q=>by
  cases z:s.heap.get? b with
  |none=>rfl
  |some o=>
   obtain⟨o',z'⟩:=I.base.there b o z (by exact λy=>absurd (show b∈([]:List Addr) from y) (by simp))
   rw[q] at z';cases z'
 have hok:HOk P w H1 s1.heap:=I.hok
 have J7:H1 T2=none:=hok.fresh J5
 have u2:Un (frs outer) [] H H1 s.heap h2:=gk (show Un (frs outer) [] H H1 s.heap s1.heap from I.base) IM (λb hb=>by rw[ES.mp hb];exact ne) λb hb=>ql hb
 have u3:Un (frs outer) [] H H1 s.heap h3:=gk u2 Iy (λb hb=>by rw[ES.mp hb];exact f1 T2 J6) λb hb=>by cases hb
 have k2:=gj hok IM (λb hb=>I.stkFree b hb) (λb hb=>by rw[ES.mp hb];exact He)
 have k3:=gj k2 Iy (λb hb=>by cases hb) (λb hb=>by rw[ES.mp hb];exact J7)
 exact⟨e,C,od,T2,H1,rfl,I.os,I.bare,u3,k3,LM,ne,f1 T2 J6,He,J7,hE⟩
end
end Exc
namespace L2
theorem Same.tup{K:Ex}{H H':Hp}{a:Addr}{xs:List V}(e:Same H H')(h:SqT K H a xs):SqT K H' a xs:=by
 rcases h with(h|⟨o,h⟩)|h
 ·exact .inl (.inl (e _ _ h))
 ·exact .inl (.inr ⟨o,e _ _ h⟩)
 ·exact .inr h
end L2
namespace My
theorem fv{X:Cx}:fu (Exc.CX1 X.prog X.w) X E0:=λ_ _ _ _ _ _ _ h=>by
 obtain⟨e,C,od,T,H',_,_,_,_,_,_,_,_,_,_,h⟩:=h
 exact h.elim
theorem Fun.okC{P:Program}{w:World}{K:Ex}{mg:Str->Option Value}{base:Heap}{CX:CXT}{x qual:Str}{st:Stmt}{f:Addr}{fd:FuncData}{N ps:List Str}{k:Nat}{sp:Sp}(F:Fun K x qual st f fd)(S:FnScope N ps (ag st))(len:∀ vs H Q E,sp vs H Q E->vs.length=ps.length)
  (a_:∀ (cdv:Value) (A:Around) (outer:List Env) (s:Shared) (H:Hp) (vs:List V) (Q:VK) (E:XK),Room k (A.deeper (envOfC qual (ag st) s.heap.objs.size f cdv))->sp vs H Q E->
   ∃ t,PSs (cxOf CX P w K mg base N qual (ag st) f cdv A outer s H E) (aH st) t/\t {nx:=λ_ H'=>Q .non H',rt:=Q} (start N vs) H):FnOk P w K mg base CX (k+1) f fd ps sp:=by
 obtain⟨oc,od,kV,doc,pm,an,cdv,ct,osl,rfl,lk,ge⟩:=F.ex
 refine pP lk ge S len λA outer s H vs Q E hr q8=>?_
 exact a_ cdv A outer s H vs Q E hr q8
def Cal(P:Program)(w:World)(K:Ex)(mg:Str->Option Value)(base:Heap)(n:Nat)(x:Str)(ps:List Str)(sp:Sp):Prop:=
 ∃ f fd,FnOk P w K mg base (Exc.CX1 P w) n f fd ps sp/\Binds K fd ps []/\keepIn K (.ref f)=true/\mg x=some (.ref f)
def Tx(K:Ex)(mg:Str->Option Value)(x:Str)(st:Stmt)(ps:List Str):Prop:=
 ∃ f fd,Fun K x x st f fd/\Binds K fd ps []/\mg x=some (.ref f)
section
variable {X:Cx}{n m:Nat}{ps:List Str}{sp:Sp}{x:Str}{p pos:Pos}{e:Expr}{es:List Expr}{t:TA}
theorem xo(C:Cal X.prog X.w X.K X.mg X.base n x ps sp)(hr:Room m X.A)(ha:PA X (e::es) t)(hg:Gl X x:=by rfl)(hn:n<=m:=by decide)(d7:zND x:=by decide)
  (he:zSE X e es:=by rfl) (b_:zPL X pos es:=by rfl):
  PE X (.Call (.Name x p) (e::es) [] pos) (pM sp [] E0 t):=by
 obtain⟨f,fd,F,hb,hk,hm⟩:=C
 exact wn F (hr.mono hn) hg hm hk hb .nil fv ha d7 he b_
end
section
variable {P:Program}{w:World}{K:Ex}{mg:Str->Option Value}{base:Heap}
theorem Tx.ok{x:Str}{st:Stmt}{N ps:List Str}{k:Nat}{sp:Sp}(T:Tx K mg x st ps)(S:FnScope N ps (ag st))(len:∀ vs H Q E,sp vs H Q E->vs.length=ps.length)
  (a_:∀ (f:Addr) (cdv:Value) (A:Around) (outer:List Env) (s:Shared) (H:Hp) (vs:List V) (Q:VK) (E:XK),Room k (A.deeper (envOfC x (ag st) s.heap.objs.size f cdv))->sp vs H Q E->
   ∃ t,PSs (cxOf (Exc.CX1 P w) P w K mg base N x (ag st) f cdv A outer s H E).nox (aH st) t/\t {nx:=λ_ H'=>Q .non H',rt:=Q} (start N vs) H):Cal P w K mg base (k+1) x ps sp:=by
 obtain⟨f,fd,F,hb,hm⟩:=T
 refine⟨f,fd,Fun.okC F S len (λcdv A outer s H vs Q E hr h=>?_),hb,F.kp,hm⟩
 obtain⟨t,h1,h2⟩:=a_ f cdv A outer s H vs Q E hr h
 exact⟨t,h1.nox,h2⟩
end
theorem aQ{H:Hp}{p:Addr}(h:H p=none)(o:HO):Same H (upd H p o):=λb u q=>by rw[ao (bK q h)];exact q
theorem sz{n:Nat}(h:n<=1000):n<=sizeLine:=Gw (wW h)
end My
namespace L2
section
variable {X:Cx}
theorem PE.anti{e:Expr}{t t':TE}(h:PE X e t)(a:∀ s H Q,t' s H Q->t s H Q):PE X e t':=λpins s σ H Q I q=>h pins s σ H Q I (a _ _ _ q)
theorem PT.anti{e:Expr}{t t':TT}(h:PT X e t)(a:∀ s H Q,t' s H Q->t s H Q):PT X e t':=λpins s σ H Q I q=>h pins s σ H Q I (a _ _ _ q)
theorem PW.anti{e:Expr}{t t':TT}(h:PW X e t)(a:∀ s H Q,t' s H Q->t s H Q):PW X e t':=λwh pins s σ H Q I q=>h wh pins s σ H Q I (a _ _ _ q)
theorem PA.anti{e:List Expr}{t t':TA}(h:PA X e t)(a:∀ s H Q,t' s H Q->t s H Q):PA X e t':=λp pins s σ H Q I q=>h p pins s σ H Q I (a _ _ _ q)
theorem PS.anti{e:Stmt}{t t':TS}(h:PS X e t)(a:∀ E s H,t' E s H->t E s H):PS X e t':=λpins s σ H Q I q=>h pins s σ H Q I (a _ _ _ q)
theorem PSs.anti{e:List Stmt}{t t':TS}(h:PSs X e t)(a:∀ E s H,t' E s H->t E s H):PSs X e t':=λpins s σ H Q I q=>h pins s σ H Q I (a _ _ _ q)
end
end L2
namespace My
inductive D where
 |non|bl (b:Bool)|int (i:Int)|str (x:Str)|tup (xs:List D)|lst (xs:List D)
  |rol (xs:List D)
  |obj (x:Str) (fs:List (Str × D))
  |exc (x:Str) (fs:List (Str × D))
  |own (xs:List D)
  |ptr (a:Addr)
  |dti (a8:List ((Int × Int) × Int))
def dtiV(a8:List ((Int × Int) × Int)):List (List Key × V):=a8.map λe=>([.inl e.1.1,.inl e.1.2],.int e.2)
def XO(e C:Addr)(od:Option Addr):HO:= .ext λh=>∃ vs sl,h.get? e=some ⟨.ref C,od,.fields vs,sl⟩
mutual
def Rep(K:Ex)(H:Hp):D->V->Prop
 | .non,v=>v= .non
 | .bl b,v=>v= .bl b
 | .int i,v=>v= .int i
 | .str x,v=>v= .str x
 | .tup ds,v=>∃ a vs,v= .ref a/\H a=some (.tup vs)/\Reps K H ds vs
 | .lst ds,v=>∃ a vs,v= .ref a/\H a=some (.lst vs)/\Reps K H ds vs
 | .rol ds,v=>∃ a vs,v= .ref a/\SqL K H a vs/\Reps K H ds vs
 | .obj x fs,v=>∃ a C dx vs,v= .ref a/\nsIn K mainGlobals x=some (some (.ref C))/\H a=some (.ins C dx vs)/\RepF K H fs vs
 | .exc x fs,v=>∃ a C od vs,v= .ref a/\nsIn K mainGlobals x=some (some (.ref C))/\H a=some (XO a C od)/\RepF K H fs vs/\((od=none/\vs=[])\/∃ b,od=some b/\H b=some (.xd vs))
 | .own _,_=>False
 | .ptr a,v=>v= .ref a
 | .dti a8,v=>∃ a,v= .ref a/\H a=some (.dT (dtiV a8))
def RepF(K:Ex)(H:Hp):List (Str × D)->List (Str × V)->Prop
 |[],vs=>vs=[]
 |(f,d)::ds,vs=>∃ v r,vs=(f,v)::r/\Rep K H d v/\RepF K H ds r
def Reps(K:Ex)(H:Hp):List D->List V->Prop
 |[],vs=>vs=[]
 |d::ds,vs=>∃ v r,vs=v::r/\Rep K H d v/\Reps K H ds r
end
mutual
theorem Rep.mono{K:Ex}{H H':Hp}(g:Same H H'):∀ (d:D) (v:V),Rep K H d v->Rep K H' d v
 | .non,v,h=>by unfold Rep at h ⊢;exact h
 | .bl b,v,h=>by unfold Rep at h ⊢;exact h
 | .int b,v,h=>by unfold Rep at h ⊢;exact h
 | .str b,v,h=>by unfold Rep at h ⊢;exact h
 | .tup ds,v,h=>by
  unfold Rep at h ⊢
  obtain⟨a,vs,e,q,r⟩:=h
  exact⟨a,vs,e,g _ _ q,Reps.mono g ds vs r⟩
 | .lst ds,v,h=>by
  unfold Rep at h ⊢
  obtain⟨a,vs,e,q,r⟩:=h
  exact⟨a,vs,e,g _ _ q,Reps.mono g ds vs r⟩
 | .rol ds,v,h=>by
  unfold Rep at h ⊢
  obtain⟨a,vs,e,q,r⟩:=h
  exact⟨a,vs,e,g.seq q,Reps.mono g ds vs r⟩
 | .obj C fs,v,h=>by
  unfold Rep at h ⊢
  obtain⟨a,C,dx,vs,e,n,q,r⟩:=h
  exact⟨a,C,dx,vs,e,n,g _ _ q,RepF.mono g fs vs r⟩
 | .exc C fs,v,h=>by
  unfold Rep at h ⊢
  obtain⟨a,C,od,vs,e,n,q,r,d⟩:=h
  exact⟨a,C,od,vs,e,n,g _ _ q,RepF.mono g fs vs r,d.imp id λ⟨b,h1,h2⟩=>⟨b,h1,g _ _ h2⟩⟩
 | .own ds,v,h=>by
  unfold Rep at h ⊢
  exact h
 | .ptr a,v,h=>by unfold Rep at h ⊢;exact h
 | .dti a8,v,h=>by
  unfold Rep at h ⊢
  obtain⟨a,e,q⟩:=h
  exact⟨a,e,g _ _ q⟩
theorem RepF.mono{K:Ex}{H H':Hp}(g:Same H H'):∀ (ds:List (Str × D)) (vs:List (Str × V)),RepF K H ds vs->RepF K H' ds vs
 |[],vs,h=>by unfold RepF at h ⊢;exact h
 |(f,d)::ds,vs,h=>by
  unfold RepF at h ⊢
  obtain⟨v,r,e,q1,q2⟩:=h
  exact⟨v,r,e,Rep.mono g d v q1,RepF.mono g ds r q2⟩
theorem Reps.mono{K:Ex}{H H':Hp}(g:Same H H'):∀ (ds:List D) (vs:List V),Reps K H ds vs->Reps K H' ds vs
 |[],vs,h=>by unfold Reps at h ⊢;exact h
 |d::ds,vs,h=>by
  unfold Reps at h ⊢
  obtain⟨v,r,e,q1,q2⟩:=h
  exact⟨v,r,e,Rep.mono g d v q1,Reps.mono g ds r q2⟩
end
section
variable {K:Ex}{H:Hp}
theorem rep_non{v:V}:Rep K H .non v↔v= .non:=by unfold Rep;exact Iff.rfl
theorem rep_bl{b:Bool}{v:V}:Rep K H (.bl b) v↔v= .bl b:=by unfold Rep;exact Iff.rfl
theorem rep_int{i:Int}{v:V}:Rep K H (.int i) v↔v= .int i:=by unfold Rep;exact Iff.rfl
theorem rep_str{x:Str}{v:V}:Rep K H (.str x) v↔v= .str x:=by unfold Rep;exact Iff.rfl
theorem rep_tupS{ds:List D}{v:V}:Rep K H (.tup ds) v↔∃ a vs,v= .ref a/\H a=some (.tup vs)/\Reps K H ds vs:=by
 constructor
 ·intro h;unfold Rep at h;exact h
 ·intro h;unfold Rep;exact h
theorem rep_tup_mp{ds:List D}{v:V}(h:Rep K H (.tup ds) v):∃ a vs,v= .ref a/\SqT K H a vs/\Reps K H ds vs:=by
 obtain⟨a,vs,e,q,r⟩:=rep_tupS.mp h
 exact⟨a,vs,e,SqT.of q,r⟩
theorem rep_ptr{a:Addr}{v:V}:Rep K H (.ptr a) v↔v= .ref a:=by unfold Rep;exact Iff.rfl
theorem rep_dti{a8:List ((Int × Int) × Int)}{v:V}:Rep K H (.dti a8) v↔∃ a,v= .ref a/\H a=some (.dT (dtiV a8)):=by
 constructor
 ·intro h;unfold Rep at h;exact h
 ·intro h;unfold Rep;exact h
theorem rep_lst{ds:List D}{v:V}:Rep K H (.lst ds) v↔∃ a vs,v= .ref a/\H a=some (.lst vs)/\Reps K H ds vs:=by
 constructor
 ·intro h;unfold Rep at h;exact h
 ·intro h;unfold Rep;exact h
theorem rep_rol{ds:List D}{v:V}:Rep K H (.rol ds) v↔∃ a vs,v= .ref a/\SqL K H a vs/\Reps K H ds vs:=by
 constructor
 ·intro h;unfold Rep at h;exact h
 ·intro h;unfold Rep;exact h
theorem rep_obj{x:Str}{fs:List (Str × D)}{v:V}:Rep K H (.obj x fs) v↔∃ a C dx vs,v= .ref a/\nsIn K mainGlobals x=some (some (.ref C))/\H a=some (.ins C dx vs)/\RepF K H fs vs:=by
 constructor
 ·intro h;unfold Rep at h;exact h
 ·intro h;unfold Rep;exact h
theorem rep_exc{x:Str}{fs:List (Str × D)}{v:V}:Rep K H (.exc x fs) v↔∃ a C od vs,v= .ref a/\nsIn K mainGlobals x=some (some (.ref C))/\H a=some (XO a C od)/\RepF K H fs vs/\((od=none/\vs=[])\/∃ b,od=some b/\H b=some (.xd vs)):=by
 constructor
 ·intro h;unfold Rep at h;exact h
 ·intro h;unfold Rep;exact h
theorem rep_own{ds:List D}{v:V}:¬ Rep K H (.own ds) v:=by intro h;unfold Rep at h;exact h
theorem repf_nil{vs:List (Str × V)}:RepF K H [] vs↔vs=[]:=by unfold RepF;exact Iff.rfl
theorem repf_cons{f:Str}{d:D}{ds:List (Str × D)}{vs:List (Str × V)}:RepF K H ((f,d)::ds) vs↔∃ v r,vs=(f,v)::r/\Rep K H d v/\RepF K H ds r:=by
 constructor
 ·intro h;unfold RepF at h;exact h
 ·intro h;unfold RepF;exact h
theorem RepF.look{f:Str}{d:D}:∀ {fs:List (Str × D)} {vs:List (Str × V)},RepF K H fs vs->fs.lookup f=some d->∃ v,vs.lookup f=some v/\Rep K H d v
 |[],_,_,e=>by cases e
 |(g,x)::fs,vs,h,e=>by
  obtain⟨v,r,rfl,h1,h2⟩:=repf_cons.mp h
  rw[Fd] at e ⊢
  split at e
  ·cases e
   exact⟨v,rfl,h1⟩
  ·exact RepF.look h2 e
theorem RepF.none{f:Str}:∀ {fs:List (Str × D)} {vs:List (Str × V)},RepF K H fs vs->fs.lookup f=Option.none->vs.lookup f=Option.none
 |[],vs,h,_=>by rw[repf_nil.mp h];rfl
 |(g,x)::fs,vs,h,e=>by
  obtain⟨v,r,rfl,h1,h2⟩:=repf_cons.mp h
  rw[Fd] at e ⊢
  split at e
  ·cases e
  ·exact RepF.none h2 e
theorem reps_nil{vs:List V}:Reps K H [] vs↔vs=[]:=by unfold Reps;exact Iff.rfl
theorem reps_cons{d:D}{ds:List D}{vs:List V}:Reps K H (d::ds) vs↔∃ v r,vs=v::r/\Rep K H d v/\Reps K H ds r:=by
 constructor
 ·intro h;unfold Reps at h;exact h
 ·intro h;unfold Reps;exact h
theorem Reps.length:∀ {ds:List D} {vs:List V},Reps K H ds vs->vs.length=ds.length
 |[],vs,h=>by rw[reps_nil.mp h];rfl
 |d::ds,vs,h=>by
  obtain⟨v,r,rfl,_,h2⟩:=reps_cons.mp h
  rw[EW,EW,Reps.length h2]
theorem Reps.get:∀ {ds:List D} {vs:List V} {i:Nat} {d:D},Reps K H ds vs->ds[i]?=some d->∃ v,vs[i]?=some v/\Rep K H d v
 |[],_,_,_,_,e=>by simp at e
 |x::ds,vs,0,d,h,e=>by
  obtain⟨v,r,rfl,h1,_⟩:=reps_cons.mp h
  simp at e;subst e
  exact⟨v,rfl,h1⟩
 |x::ds,vs,i+1,d,h,e=>by
  obtain⟨v,r,rfl,_,h2⟩:=reps_cons.mp h
  obtain⟨u,q1,q2⟩:=Reps.get (i:=i) h2 (by simpa using e)
  exact⟨u,by simpa using q1,q2⟩
theorem Reps.ints:∀ {ns:List Int} {vs:List V},Reps K H (ns.map D.int) vs↔vs=ns.map V.int
 |[],vs=>reps_nil
 |n::ns,vs=>by
  rw[E9,reps_cons,E9]
  constructor
  ·rintro⟨v,r,rfl,h1,h2⟩
   rw[rep_int.mp h1,Reps.ints.mp h2]
  ·rintro rfl
   exact⟨_,_,rfl,rep_int.mpr rfl,Reps.ints.mpr rfl⟩
end
abbrev SD:=List (Option D)
def gl:D->Bool| .own _=>true|_=>false
structure RepS(K:Ex)(B F H:Hp)(t:SD)(s:L2.St):Prop where
 len:s.length=t.length
 val:∀ (i:Nat) d,t[i]?=some (some d)->gl d=false->∃ v,s[i]?=some (some v)/\Rep K F d v
 own:∀ (i:Nat) ds,t[i]?=some (some (.own ds))->∃ a vs,s[i]?=some (some (.ref a))/\H a=some (.lst vs)/\B a=none/\F a=none/\Reps K F ds vs
 apart:∀ (i j:Nat) di dj a,t[i]?=some (some (.own di))->t[j]?=some (some (.own dj))->s[i]?=some (some (.ref a))->s[j]?=some (some (.ref a))->i=j
structure Grow(F H F' H':Hp):Prop where
 ff:Same F F'
 fh:Same F' H'
 hh:Same H H'
 out:∀ b,F b=none->H b≠none->F' b=none
theorem Grow.refl{F H:Hp}(h:Same F H):Grow F H F H:=⟨Same.refl F,h,Same.refl H,λ_ h _=>h⟩
theorem Grow.trans{F H F1 H1 F2 H2:Hp}(g:Grow F H F1 H1)(k:Grow F1 H1 F2 H2):Grow F H F2 H2:=
 ⟨g.ff.trans k.ff,k.fh,g.hh.trans k.hh,λb h1 h2=>k.out b (g.out b h1 h2) (by
  cases e:H b with
  |none=>exact absurd e h2
  |some o=>rw[g.hh b o e];exact λz=>nomatch z)⟩
theorem Grow.new{F H:Hp}{p:Addr}(h:Same F H)(hp:H p=none)(o:HO):Grow F H (upd F p o) (upd H p o):=by
 have fp:F p=none:=h.free hp
 refine⟨aQ fp o,λb u e=>?_,aQ hp o,λb h1 h2=>?_⟩
 ·by_cases hb:b=p
  ·subst hb;rw[az] at e ⊢;exact e
  ·rw[ao hb] at e ⊢;exact h b u e
 ·by_cases hb:b=p
  ·subst hb;exact absurd hp h2
  ·rw[ao hb];exact h1
class Jx where
 B:Hp
 F0:Hp
 RX:SD->Str->List (Str × D)->Prop
structure Kept[J:Jx](B F0 F H:Hp):Prop where
 bh:Same B H
 fh:Same F H
 f0:Same F0 F
 out:∀ b,F0 b=none->B b≠none->F b=none
 eb:B=J.B
 jf:Same J.F0 F0
 jo:∀ b,J.F0 b=none->B b≠none->F0 b=none
theorem Kept.kf[J:Jx]{B F0 F H:Hp}(k:Kept B F0 F H):Kept B J.F0 F H:=⟨k.bh,k.fh,k.jf.trans k.f0,λb h1 h2=>k.out b (k.jo b h1 h2) h2,k.eb,Same.refl _,λ_ h _=>h⟩
theorem Kept.grow[Jx]{B F0 F H F' H':Hp}(k:Kept B F0 F H)(g:Grow F H F' H'):Kept B F0 F' H':=
 ⟨k.bh.trans g.hh,g.fh,k.f0.trans g.ff,λb h1 h2=>g.out b (k.out b h1 h2) (by
  cases e:B b with
  |none=>exact absurd e h2
  |some o=>rw[k.bh b o e];exact λz=>nomatch z),k.eb,k.jf,k.jo⟩
section
variable {K:Ex}{B F H F' H':Hp}{t:SD}{s:L2.St}
theorem RepS.grow(g:Grow F H F' H')(h:RepS K B F H t s):RepS K B F' H' t s where
 len:=h.len
 val:=λi d e no=>let ⟨v,q1,q2⟩:=h.val i d e no;⟨v,q1,q2.mono g.ff⟩
 own:=λi ds e=>by
  obtain⟨a,vs,q1,q2,q3,q4,q5⟩:=h.own i ds e
  exact⟨a,vs,q1,g.hh a _ q2,q3,g.out a q4 (by rw[q2];exact λz=>nomatch z),q5.mono g.ff⟩
 apart:=h.apart
theorem RepS.set{i:Nat}{d:D}{v:V}(h:RepS K B F H t s)(r:Rep K F d v):RepS K B F H (t.set i (some d)) (s.set i (some v)):=by
 have no:gl d=false:=by
  cases d with
  |own ds=>exact absurd r rep_own
  |_=>rfl
 have get:∀ {j:Nat} {x:D},(t.set i (some d))[j]?=some (some x)->(j=i/\x=d/\i<t.length)\/(j≠i/\t[j]?=some (some x)):=λ{j x} e=>by
  by_cases hj:i=j
  ·subst hj
   rw[Ga] at e
   simp at e
   exact .inl ⟨rfl,e.2.symm,e.1⟩
  ·rw[Ff hj] at e
   exact .inr ⟨λz=>hj z.symm,e⟩
 refine⟨by rw[F7,F7];exact h.len,λj x e nx=>?_,λj ds e=>?_,λj k dj dk a e1 e2 e3 e4=>?_⟩
 ·rcases get e with⟨rfl,rfl,hl⟩|⟨hj,e⟩
  ·exact⟨v,by rw[FG (by rw[h.len];exact hl)],r⟩
  ·obtain⟨u,q1,q2⟩:=h.val j x e nx
   exact⟨u,by rw[Ff (λz=>hj z.symm)];exact q1,q2⟩
 ·rcases get e with⟨rfl,rfl,hl⟩|⟨hj,e⟩
  ·cases no
  ·obtain⟨a,vs,q1,q⟩:=h.own j ds e
   exact⟨a,vs,by rw[Ff (λz=>hj z.symm)];exact q1,q⟩
 ·rcases get e1 with⟨rfl,rfl,hl⟩|⟨hj,e1⟩
  ·cases no
  ·rcases get e2 with⟨rfl,rfl,hl⟩|⟨hk,e2⟩
   ·cases no
   ·rw[Ff (λz=>hj z.symm)] at e3
    rw[Ff (λz=>hk z.symm)] at e4
    exact h.apart j k dj dk a e1 e2 e3 e4
theorem RepS.setOwn{i:Nat}{a:Addr}{vs:List V}{ds:List D}(h:RepS K B F H t s)(hB:B a=none)(hF:F a=none)(r:Reps K F ds vs)
  (free:∀ (j:Nat) dj,j≠i->t[j]?=some (some (.own dj))->s[j]?≠some (some (.ref a))):RepS K B F (upd H a (.lst vs)) (t.set i (some (.own ds))) (s.set i (some (.ref a))):=by
 have get:∀ {j:Nat} {x:D},(t.set i (some (.own ds)))[j]?=some (some x)->(j=i/\x= .own ds/\i<t.length)\/(j≠i/\t[j]?=some (some x)):=λ{j x} e=>by
  by_cases hj:i=j
  ·subst hj
   rw[Ga] at e
   simp at e
   exact .inl ⟨rfl,e.2.symm,e.1⟩
  ·rw[Ff hj] at e
   exact .inr ⟨λz=>hj z.symm,e⟩
 refine⟨by rw[F7,F7];exact h.len,λj x e nx=>?_,λj dj e=>?_,λj k dj dk b e1 e2 e3 e4=>?_⟩
 ·rcases get e with⟨rfl,rfl,hl⟩|⟨hj,e⟩
  ·cases nx
  ·obtain⟨u,q1,q2⟩:=h.val j x e nx
   exact⟨u,by rw[Ff (λz=>hj z.symm)];exact q1,q2⟩
 ·rcases get e with⟨rfl,e,hl⟩|⟨hj,e⟩
  ·cases e
   exact⟨a,vs,by rw[FG (by rw[h.len];exact hl)],az,hB,hF,r⟩
  ·obtain⟨b,us,q1,q2,q⟩:=h.own j dj e
   have ne:b≠a:=λz=>free j dj hj e (z ▸ q1)
   exact⟨b,us,by rw[Ff (λz=>hj z.symm)];exact q1,by rw[ao ne];exact q2,q⟩
 ·rcases get e1 with⟨hj,c1,hl⟩|⟨hj,f1⟩
  ·rcases get e2 with⟨hk,c2,IA⟩|⟨hk,f2⟩
   ·rw[hj,hk]
   ·rw[hj,FG (by rw[h.len];exact hl)] at e3
    rw[Ff (λz=>hk z.symm)] at e4
    cases e3
    exact absurd e4 (free k dk hk f2)
  ·rcases get e2 with⟨hk,c2,IA⟩|⟨hk,f2⟩
   ·rw[hk,FG (by rw[h.len];exact IA)] at e4
    rw[Ff (λz=>hj z.symm)] at e3
    cases e4
    exact absurd e3 (free j dj hj f1)
   ·rw[Ff (λz=>hj z.symm)] at e3
    rw[Ff (λz=>hk z.symm)] at e4
    exact h.apart j k dj dk b f1 f2 e3 e4
theorem RepS.freeze[Jx]{F0:Hp}{i:Nat}{ds:List D}(h:RepS K B F H t s)(k:Kept B F0 F H)(e:t[i]?=some (some (.own ds))):∃ F',Kept B F0 F' H/\RepS K B F' H (t.set i (some (.lst ds))) s:=by
 obtain⟨a,vs,q1,q2,q3,q4,q5⟩:=h.own i ds e
 have hl:i<t.length:=(Fb.mp e).1
 have g:Same F (upd F a (.lst vs)):=aQ q4 _
 have get:∀ {j:Nat} {x:D},(t.set i (some (.lst ds)))[j]?=some (some x)->(j=i/\x= .lst ds)\/(j≠i/\t[j]?=some (some x)):=λ{j x} e=>by
  by_cases hj:i=j
  ·subst hj
   rw[Ga] at e
   simp at e
   exact .inl ⟨rfl,e.2.symm⟩
  ·rw[Ff hj] at e
   exact .inr ⟨λz=>hj z.symm,e⟩
 refine⟨upd F a (.lst vs),⟨k.bh,λb o z=>?_,k.f0.trans g,λb h1 h2=>?_,k.eb,k.jf,k.jo⟩,⟨by rw[F7];exact h.len,λj x e' nx=>?_,λj dj e'=>?_,λj l dj dl b e1 e2 e3 e4=>?_⟩⟩
 ·by_cases hb:b=a
  ·subst hb;rw[az] at z;cases z;exact q2
  ·rw[ao hb] at z;exact k.fh b o z
 ·by_cases hb:b=a
  ·subst hb;exact absurd q3 h2
  ·rw[ao hb];exact k.out b h1 h2
 ·rcases get e' with⟨rfl,rfl⟩|⟨hj,e'⟩
  ·exact⟨.ref a,q1,rep_lst.mpr ⟨a,vs,rfl,az,q5.mono g⟩⟩
  ·obtain⟨u,p1,p2⟩:=h.val j x e' nx
   exact⟨u,p1,p2.mono g⟩
 ·rcases get e' with⟨rfl,c⟩|⟨hj,e'⟩
  ·cases c
  ·obtain⟨b,us,p1,p2,p3,p4,p5⟩:=h.own j dj e'
   have ne:b≠a:=λz=>hj (h.apart j i dj ds a e' e (z ▸ p1) q1)
   exact⟨b,us,p1,p2,p3,by rw[ao ne];exact p4,p5.mono g⟩
 ·rcases get e1 with⟨rfl,c⟩|⟨hj,e1⟩
  ·cases c
  ·rcases get e2 with⟨rfl,c⟩|⟨hk,e2⟩
   ·cases c
   ·exact h.apart j l dj dl b e1 e2 e3 e4
end
def startD(N:List Str)(ds:List D):SD:=ds.map some++FB (N.length - ds.length) none
theorem Rep.noown{K:Ex}{F:Hp}{d:D}{v:V}(r:Rep K F d v):gl d=false:=by
 cases d with
 |own ds=>exact absurd r rep_own
 |_=>rfl
theorem dY{K:Ex}{B F H:Hp}{N:List Str}{ds:List D}{vs:List V}(h:Reps K F ds vs):RepS K B F H (startD N ds) (L2.start N vs):=by
 have hl:=h.length
 have get:∀ (i:Nat) d,(startD N ds)[i]?=some (some d)->∃ v,(L2.start N vs)[i]?=some (some v)/\Rep K F d v:=λi d e=>by
  unfold startD at e
  unfold L2.start
  by_cases hi:i<ds.length
  ·rw[FH (by simpa using hi),E8] at e
   cases q:ds[i]? with
   |none=>rw[q] at e;cases e
   |some x=>
    rw[q] at e;cases e
    obtain⟨v,q1,q2⟩:=h.get q
    exact⟨v,by rw[FH (by simpa[hl] using hi),E8,q1];rfl,q2⟩
  ·rw[FW (by simpa using hi),GV] at e
   split at e<;>cases e
 refine⟨by unfold startD L2.start;simp[hl],λi d e _=>get i d e,λi d e=>?_,λi j di dj a e=>?_⟩
 ·obtain⟨v,_,r⟩:=get i _ e;exact absurd r rep_own
 ·obtain⟨v,_,r⟩:=get i _ e;exact absurd r rep_own
abbrev TD:=SD->(D->Prop)->Prop
abbrev TDT:=SD->(Bool->Prop)->Prop
abbrev TDA:=SD->(List D->Prop)->Prop
structure EndsD where
 nx:SD->Prop
 rt:D->Prop
 bk:SD->Prop:=λ_=>False
 ct:SD->Prop:=λ_=>False
abbrev TSD:=EndsD->SD->Prop
def lE(K:Ex)[J:Jx](t:TD):TE:=λs H Q=>∃ B F z,Kept B J.F0 F H/\RepS K B F H z s/\∃ R:D->Prop,t z R/\∀ d v F' H',Grow F H F' H'->R d->Rep K F' d v->Q v H'
def lT(K:Ex)[J:Jx](t:TDT):TT:=λs H Q=>∃ B F z,Kept B J.F0 F H/\RepS K B F H z s/\∃ R:Bool->Prop,t z R/\∀ b F' H',Grow F H F' H'->R b->Q b H'
def lA(K:Ex)[J:Jx](t:TDA):TA:=λs H Q=>∃ B F z,Kept B J.F0 F H/\RepS K B F H z s/\∃ R:List D->Prop,t z R/\∀ ds vs F' H',Grow F H F' H'->R ds->Reps K F' ds vs->Q vs H'
structure EndsOk[Jx](K:Ex)(B F0:Hp)(ED:EndsD)(E:Ends):Prop where
 nx:∀ z' s' F' H',Kept B F0 F' H'->ED.nx z'->RepS K B F' H' z' s'->E.nx s' H'
 rt:∀ d v F' H',Kept B F0 F' H'->ED.rt d->Rep K F' d v->E.rt v H'
 bk:∀ z' s' F' H',Kept B F0 F' H'->ED.bk z'->RepS K B F' H' z' s'->E.bk s' H'
 ct:∀ z' s' F' H',Kept B F0 F' H'->ED.ct z'->RepS K B F' H' z' s'->E.ct s' H'
def lS(K:Ex)[Jx](t:TSD):TS:=λE s H=>∃ B F0 F z,Kept B F0 F H/\RepS K B F H z s/\∃ ED:EndsD,t ED z/\EndsOk K B F0 ED E
abbrev DE(X:Cx)[Jx](e:Expr)(t:TD):Prop:=PE X e (lE X.K t)
abbrev DT(X:Cx)[Jx](e:Expr)(t:TDT):Prop:=PT X e (lT X.K t)
abbrev DW(X:Cx)[Jx](e:Expr)(t:TDT):Prop:=PW X e (lT X.K t)
abbrev DA(X:Cx)[Jx](es:List Expr)(t:TDA):Prop:=PA X es (lA X.K t)
abbrev DS(X:Cx)[Jx](st:Stmt)(t:TSD):Prop:=PS X st (lS X.K t)
abbrev DSs(X:Cx)[Jx](st:List Stmt)(t:TSD):Prop:=PSs X st (lS X.K t)
structure WDE(X:Cx)[Jx](e:Expr)(t:TD):Prop where
 out:DE X e t
structure WDT(X:Cx)[Jx](e:Expr)(t:TDT):Prop where
 out:DT X e t
structure WDW(X:Cx)[Jx](e:Expr)(t:TDT):Prop where
 out:DW X e t
structure WDA(X:Cx)[Jx](es:List Expr)(t:TDA):Prop where
 out:DA X es t
structure WDS(X:Cx)[Jx](st:Stmt)(t:TSD):Prop where
 out:DS X st t
structure WDSs(X:Cx)[Jx](st:List Stmt)(t:TSD):Prop where
 out:DSs X st t
section
variable {X:Cx}
def okR(R:D->Prop):D->Prop| .own _=>False|d=>R d
def dVar(i:Nat):TD:=λz R=>match z[i]? with|some (some d)=>okR R d|_=>False
def dC(d:D):TD:=λ_ R=>R d
theorem aa[Jx](i:Nat){x:Str}{pos:Pos}(hN:X.N[i]?=some x:=by rfl)(hv:Vis X.env.scope x:=by first|exact Or.inl rfl|exact Or.inr (Or.inl rfl)|exact Or.inr (Or.inr rfl))(hd:zND x:=by decide)
  (ge:zNC x:=by decide):WDE X (.Name x pos) (dVar i):=⟨(du hN hv hd ge).anti λs H Q h=>by
 obtain⟨B,F,z,kf,r,R,h1,h2⟩:=h
 have fh:=kf.fh
 unfold dVar at h1
 split at h1
 ·rename_i d e
  have no:gl d=false:=by
   cases d with
   |own ds=>exact False.elim h1
   |_=>rfl
  have OX:R d:=by
   cases d with
   |own ds=>exact False.elim h1
   |_=>exact h1
  obtain⟨v,q1,q2⟩:=r.val i d e no
  exact⟨v,q1,h2 d v F H (Grow.refl fh) OX q2⟩
 ·exact h1.elim⟩
theorem de_c[Jx]{e:Expr}{d:D}{v:V}(h:PE X e (tC v))(r:∀ H,Rep X.K H d v):DE X e (dC d):=h.anti λs H Q q=>by
 obtain⟨B,F,z,kf,_,R,h1,h2⟩:=q
 have fh:=kf.fh
 exact h2 d v F H (Grow.refl fh) h1 (r F)
theorem ad[Jx]{i j pos}:WDE X (.Constant (.int i) j pos) (dC (.int i)):=⟨de_c uv λ_=>rep_int.mpr rfl⟩
theorem cv[Jx]{b j pos}:WDE X (.Constant (.bool b) j pos) (dC (.bl b)):=⟨de_c uw λ_=>rep_bl.mpr rfl⟩
theorem cG[Jx]{j pos}:WDE X (.Constant .none j pos) (dC .non):=⟨de_c ux λ_=>rep_non.mpr rfl⟩
theorem ax[Jx]{x j pos}:WDE X (.Constant (.str x) j pos) (dC (.str x)):=⟨de_c oR λ_=>rep_str.mpr rfl⟩
abbrev RD2:=D->D->(D->Prop)->Prop
def dOp(r:RD2)(ta tb:TD):TD:=λz R=>ta z λx=>tb z λy=>r x y R
def aU(K:Ex)(r:R2)(rd:RD2):Prop:=∀ x y u v F H R Q,Same F H->rd x y R->Rep K F x u->Rep K F y v->(∀ d w F' H',Grow F H F' H'->R d->Rep K F' d w->Q w H')->r u v H Q
theorem jF[Jx]{e:Expr}{r:R2}{rd:RD2}{ta tb:TD}(L:aU X.K r rd)(h:PE X e (tOp r (lE X.K ta) (lE X.K tb))):DE X e (dOp rd ta tb):=h.anti λs H Q q=>by
 obtain⟨B,F,z,kf,rs,R,h1,h2⟩:=q
 have fh:=kf.fh
 refine⟨B,F,z,kf,rs,_,h1,λx u F1 H1 g1 hx rx=>?_⟩
 refine⟨B,F1,z,kf.grow g1,rs.grow g1,_,hx,λy v F2 H2 g2 hy ry=>?_⟩
 exact L x y u v F2 H2 R Q g2.fh hy (rx.mono g2.ff) ry λd w F' H' g3=>h2 d w F' H' (g1.trans (g2.trans g3))
variable {a b c:Expr}{ta tb tc:TD}{pos:Pos}
theorem cP[Jx]{op:Operator}{r:R2}{rd:RD2}(ho:OpR X (binaryOp op) r)(L:aU X.K r rd)(ha:DE X a ta)(hb:DE X b tb):DE X (.BinOp a op b pos) (dOp rd ta tb):=jF L (pq ho ha hb)
theorem xp[Jx]{op:CmpOp}{r:R2}{rd:RD2}(ho:OpR X (compareOp op) r)(L:aU X.K r rd)(ha:DE X a ta)(hb:DE X b tb)(hm:behindInMarks op b=false):DE X (.Compare a [op] [b] pos) (dOp rd ta tb):=jF L (vJ ho ha hb hm)
theorem xq[Jx]{r:R2}{rd:RD2}(hr:IxR X r)(L:aU X.K r rd)(ha:DE X a ta)(hb:DE X b tb)(hs:dW b:=by exact λ_ _=>rfl):DE X (.Subscript a b pos) (dOp rd ta tb):=jF L (pe_ix hr ha hb hs)
def rdAdd:RD2:=λx y R=>match x,y with
 | .int i,.int j=>R (.int (i+j))
 | .str i,.str j=>i.length+j.length<=1000000/\R (.str (i++j))
 | .lst xs,.lst ys=>xs.length+ys.length<=1000000/\R (.lst (xs++ys))
 | .tup xs,.tup ys=>(xs≠[]/\ys≠[]/\xs.length+ys.length<=1000000)/\R (.tup (xs++ys))
 |_,_=>False
def qo(K:Ex):R2:=λx y H Q=>rI0 (λi j=> .int (i+j)) x y H Q\/((λx y H Q=>∃ i j,x= .str i/\y= .str j/\i.length+j.length<=sizeLine/\Q (.str (i++j)) H) x y H Q\/(rCat x y H Q\/pX K x y H Q))
theorem qp:OpR X (binaryOp .Add) (qo X.K):=OpR.or vx (OpR.or vP (OpR.or wR wA))
theorem Reps.append{K:Ex}{F:Hp}:∀ {xs ys:List D} {us vs:List V},Reps K F xs us->Reps K F ys vs->Reps K F (xs++ys) (us++vs)
 |[],ys,us,vs,r1,r2=>by rw[reps_nil.mp r1];exact r2
 |x::xs,ys,us,vs,r1,r2=>by
  obtain⟨u,ur,rfl,a1,a2⟩:=reps_cons.mp r1
  exact reps_cons.mpr ⟨u,ur++vs,rfl,a1,Reps.append a2 r2⟩
theorem Reps.ne_nil{K:Ex}{F:Hp}{xs:List D}{us:List V}(r:Reps K F xs us)(h:xs≠[]):us≠[]:=by
 cases xs with
 |nil=>exact absurd rfl h
 |cons x xs=>obtain⟨u,ur,rfl,_⟩:=reps_cons.mp r;exact λz=>nomatch z
theorem qq{K:Ex}:aU K (qo K) rdAdd:=by
 intro x y u v F H R Q fh h rx ry q
 unfold rdAdd at h
 split at h
 ·exact .inl ⟨_,_,rep_int.mp rx,rep_int.mp ry,q _ _ F H (Grow.refl fh) h (rep_int.mpr rfl)⟩
 ·exact .inr (.inl ⟨_,_,rep_str.mp rx,rep_str.mp ry,E4 h.1 (by decide),q _ _ F H (Grow.refl fh) h.2 (rep_str.mpr rfl)⟩)
 ·obtain⟨a,us,rfl,hq,rr⟩:=rep_lst.mp rx
  obtain⟨b,vs,rfl,z7,Jq⟩:=rep_lst.mp ry
  refine .inr (.inr (.inl ⟨a,b,us,vs,rfl,rfl,fh _ _ hq,fh _ _ z7,by rw[rr.length,Jq.length];exact E4 h.1 (by decide),λp hp=>?_⟩))
  exact q _ _ _ _ (Grow.new fh hp _) h.2 (rep_lst.mpr ⟨p,_,rfl,az,(rr.append Jq).mono (aQ (fh.free hp) _)⟩)
 ·obtain⟨a,us,rfl,hq,rr⟩:=rep_tup_mp rx
  obtain⟨b,vs,rfl,z7,Jq⟩:=rep_tup_mp ry
  obtain⟨⟨n1,n2,hz⟩,h⟩:=h
  refine .inr (.inr (.inr ⟨a,b,us,vs,rfl,rfl,fh.tup hq,fh.tup z7,rr.ne_nil n1,by rw[rr.length,Jq.length];exact E4 hz (by decide),λz=>absurd z (Jq.ne_nil n2),λ_ p hp=>?_⟩))
  exact q _ _ _ _ (Grow.new fh hp _) h (rep_tupS.mpr ⟨p,_,rfl,az,(rr.append Jq).mono (aQ (fh.free hp) _)⟩)
 ·exact h.elim
theorem am[Jx](ha:WDE X a ta)(hb:WDE X b tb):WDE X (.BinOp a .Add b pos) (dOp rdAdd ta tb):=⟨have ha:=ha.out;have hb:=hb.out;cP qp qq ha hb⟩
def rdSub:RD2:=λx y R=>match x,y with| .int i,.int j=>R (.int (i - j))|_,_=>False
theorem qr{K:Ex}:aU K (rI0 λi j=> .int (i - j)) rdSub:=by
 intro x y u v F H R Q fh h rx ry q
 unfold rdSub at h
 split at h
 ·exact⟨_,_,rep_int.mp rx,rep_int.mp ry,q _ _ F H (Grow.refl fh) h (rep_int.mpr rfl)⟩
 ·exact h.elim
theorem bf[Jx](ha:WDE X a ta)(hb:WDE X b tb):WDE X (.BinOp a .Sub b pos) (dOp rdSub ta tb):=⟨have ha:=ha.out;have hb:=hb.out;cP pv qr ha hb⟩
def rdMul:RD2:=λx y R=>match x,y with| .int i,.int j=>CMul i j/\R (.int (i*j))|_,_=>False
theorem xr{K:Ex}:aU K (rI CMul λi j=> .int (i*j)) rdMul:=by
 intro x y u v F H R Q fh h rx ry q
 unfold rdMul at h
 split at h
 ·exact⟨_,_,rep_int.mp rx,rep_int.mp ry,h.1,q _ _ F H (Grow.refl fh) h.2 (rep_int.mpr rfl)⟩
 ·exact h.elim
theorem ar[Jx](ha:WDE X a ta)(hb:WDE X b tb):WDE X (.BinOp a .Mult b pos) (dOp rdMul ta tb):=⟨have ha:=ha.out;have hb:=hb.out;cP vy xr ha hb⟩
def rdFdiv:RD2:=λx y R=>match x,y with| .int i,.int j=>(0<j/\j<1073741824)/\R (.int (i / j))|_,_=>False
theorem xt{K:Ex}:aU K (rI CDiv λi j=> .int (i / j)) rdFdiv:=by
 intro x y u v F H R Q fh h rx ry q
 unfold rdFdiv at h
 split at h
 ·exact⟨_,_,rep_int.mp rx,rep_int.mp ry,h.1,q _ _ F H (Grow.refl fh) h.2 (rep_int.mpr rfl)⟩
 ·exact h.elim
theorem aV[Jx](ha:WDE X a ta)(hb:WDE X b tb):WDE X (.BinOp a .FloorDiv b pos) (dOp rdFdiv ta tb):=⟨have ha:=ha.out;have hb:=hb.out;cP vz xt ha hb⟩
def rdFdivN:RD2:=λx y R=>match x,y with| .int i,.int j=>(j≠0/\j.natAbs<1073741824)/\R (.int (i.fdiv j))|_,_=>False
theorem xu{K:Ex}:aU K (rI pr λi j=> .int (i.fdiv j)) rdFdivN:=by
 intro x y u v F H R Q fh h rx ry q
 unfold rdFdivN at h
 split at h
 ·exact⟨_,_,rep_int.mp rx,rep_int.mp ry,h.1,q _ _ F H (Grow.refl fh) h.2 (rep_int.mpr rfl)⟩
 ·exact h.elim
theorem xx[Jx](ha:WDE X a ta)(hb:WDE X b tb):WDE X (.BinOp a .FloorDiv b pos) (dOp rdFdivN ta tb):=⟨have ha:=ha.out;have hb:=hb.out;cP vA xu ha hb⟩
def rdMod:RD2:=λx y R=>match x,y with| .int i,.int j=>0<j/\R (.int (i % j))|_,_=>False
theorem xy{K:Ex}:aU K (rI (λ_ j=>0<j) λi j=> .int (i % j)) rdMod:=by
 intro x y u v F H R Q fh h rx ry q
 unfold rdMod at h
 split at h
 ·exact⟨_,_,rep_int.mp rx,rep_int.mp ry,h.1,q _ _ F H (Grow.refl fh) h.2 (rep_int.mpr rfl)⟩
 ·exact h.elim
theorem av[Jx](ha:WDE X a ta)(hb:WDE X b tb):WDE X (.BinOp a .Mod b pos) (dOp rdMod ta tb):=⟨have ha:=ha.out;have hb:=hb.out;cP vB xy ha hb⟩
def rdModN:RD2:=λx y R=>match x,y with| .int i,.int j=>j≠0/\R (.int (i.fmod j))|_,_=>False
theorem xz{K:Ex}:aU K (rI (λ_ j=>j≠0) λi j=> .int (i.fmod j)) rdModN:=by
 intro x y u v F H R Q fh h rx ry q
 unfold rdModN at h
 split at h
 ·exact⟨_,_,rep_int.mp rx,rep_int.mp ry,h.1,q _ _ F H (Grow.refl fh) h.2 (rep_int.mpr rfl)⟩
 ·exact h.elim
theorem qt[Jx](ha:WDE X a ta)(hb:WDE X b tb):WDE X (.BinOp a .Mod b pos) (dOp rdModN ta tb):=⟨have ha:=ha.out;have hb:=hb.out;cP vC xz ha hb⟩
def rdPow:RD2:=λx y R=>match x,y with| .int i,.int j=>(0<=j/\j<=1000000/\i.natAbs<2 ^ 64)/\R (.int (i ^ j.toNat))|_,_=>False
theorem xA{K:Ex}:aU K (rI CPow λi j=> .int (i ^ j.toNat)) rdPow:=by
 intro x y u v F H R Q fh h rx ry q
 unfold rdPow at h
 split at h
 ·exact⟨_,_,rep_int.mp rx,rep_int.mp ry,h.1,q _ _ F H (Grow.refl fh) h.2 (rep_int.mpr rfl)⟩
 ·exact h.elim
theorem dZ[Jx](ha:WDE X a ta)(hb:WDE X b tb):WDE X (.BinOp a .Pow b pos) (dOp rdPow ta tb):=⟨have ha:=ha.out;have hb:=hb.out;cP vD xA ha hb⟩
def rdLt:RD2:=λx y R=>match x,y with| .int i,.int j=>R (.bl (decide (i<j)))|_,_=>False
theorem jG{K:Ex}:aU K (rI0 λi j=> .bl (decide (i<j))) rdLt:=by
 intro x y u v F H R Q fh h rx ry q
 unfold rdLt at h
 split at h
 ·exact⟨_,_,rep_int.mp rx,rep_int.mp ry,q _ _ F H (Grow.refl fh) h (rep_bl.mpr rfl)⟩
 ·exact h.elim
def rdLe:RD2:=λx y R=>match x,y with| .int i,.int j=>R (.bl (decide (i<=j)))|_,_=>False
theorem qu{K:Ex}:aU K (rI0 λi j=> .bl (decide (i<=j))) rdLe:=by
 intro x y u v F H R Q fh h rx ry q
 unfold rdLe at h
 split at h
 ·exact⟨_,_,rep_int.mp rx,rep_int.mp ry,q _ _ F H (Grow.refl fh) h (rep_bl.mpr rfl)⟩
 ·exact h.elim
def rdGt:RD2:=λx y R=>match x,y with| .int i,.int j=>R (.bl (decide (j<i)))|_,_=>False
theorem xB{K:Ex}:aU K (rI0 λi j=> .bl (decide (j<i))) rdGt:=by
 intro x y u v F H R Q fh h rx ry q
 unfold rdGt at h
 split at h
 ·exact⟨_,_,rep_int.mp rx,rep_int.mp ry,q _ _ F H (Grow.refl fh) h (rep_bl.mpr rfl)⟩
 ·exact h.elim
def rdGe:RD2:=λx y R=>match x,y with| .int i,.int j=>R (.bl (decide (j<=i)))|_,_=>False
theorem xC{K:Ex}:aU K (rI0 λi j=> .bl (decide (j<=i))) rdGe:=by
 intro x y u v F H R Q fh h rx ry q
 unfold rdGe at h
 split at h
 ·exact⟨_,_,rep_int.mp rx,rep_int.mp ry,q _ _ F H (Grow.refl fh) h (rep_bl.mpr rfl)⟩
 ·exact h.elim
def rdEq:RD2:=λx y R=>match x,y with
 | .int i,.int j=>R (.bl (decide (i=j)))
 | .bl i,.bl j=>R (.bl (decide (i=j)))
 | .str i,.str j=>R (.bl (decide (i=j)))
 | .non,.non=>R (.bl true)
 |_,_=>False
def rdNe:RD2:=λx y R=>match x,y with
 | .int i,.int j=>R (.bl (!decide (i=j)))
 | .bl i,.bl j=>R (.bl (!decide (i=j)))
 | .str i,.str j=>R (.bl (!decide (i=j)))
 | .non,.non=>R (.bl false)
 |_,_=>False
theorem jH{K:Ex}:aU K rEq rdEq:=by
 intro x y u v F H R Q fh h rx ry q
 unfold rdEq at h
 split at h
 ·rw[rep_int.mp rx,rep_int.mp ry]
  refine⟨rfl,q _ _ F H (Grow.refl fh) h (rep_bl.mpr ?_)⟩
  simp
 ·rw[rep_bl.mp rx,rep_bl.mp ry]
  refine⟨rfl,q _ _ F H (Grow.refl fh) h (rep_bl.mpr ?_)⟩
  simp
 ·rw[rep_str.mp rx,rep_str.mp ry]
  refine⟨rfl,q _ _ F H (Grow.refl fh) h (rep_bl.mpr ?_)⟩
  simp
 ·rw[rep_non.mp rx,rep_non.mp ry]
  refine⟨rfl,q _ _ F H (Grow.refl fh) h (rep_bl.mpr ?_)⟩
  simp
 ·exact h.elim
theorem xD{K:Ex}:aU K rNe rdNe:=by
 intro x y u v F H R Q fh h rx ry q
 unfold rdNe at h
 split at h
 ·rw[rep_int.mp rx,rep_int.mp ry]
  refine⟨rfl,q _ _ F H (Grow.refl fh) h (rep_bl.mpr ?_)⟩
  simp
 ·rw[rep_bl.mp rx,rep_bl.mp ry]
  refine⟨rfl,q _ _ F H (Grow.refl fh) h (rep_bl.mpr ?_)⟩
  simp
 ·rw[rep_str.mp rx,rep_str.mp ry]
  refine⟨rfl,q _ _ F H (Grow.refl fh) h (rep_bl.mpr ?_)⟩
  simp
 ·rw[rep_non.mp rx,rep_non.mp ry]
  refine⟨rfl,q _ _ F H (Grow.refl fh) h (rep_bl.mpr ?_)⟩
  simp
 ·exact h.elim
theorem cH[Jx](ha:WDE X a ta)(hb:WDE X b tb):WDE X (.Compare a [.Eq] [b] pos) (dOp rdEq ta tb):=⟨have ha:=ha.out;have hb:=hb.out;xp jv jH ha hb (nomark _)⟩
def qv:D->Bool| .non=>true|_=>false
def rdIs(f:Bool->Bool):RD2:=λx y R=>match y with| .non=>R (.bl (f (qv x)))|_=>False
theorem qw{K:Ex}{H:Hp}{x:D}{u:V}(r:Rep K H x u):decide (u= .non)=qv x:=by
 cases x with
 |non=>rw[rep_non.mp r];rfl
 |bl b=>rw[rep_bl.mp r];rfl
 |int b=>rw[rep_int.mp r];rfl
 |str b=>rw[rep_str.mp r];rfl
 |tup b=>obtain⟨a,vs,rfl,_⟩:=rep_tup_mp r;rfl
 |lst b=>obtain⟨a,vs,rfl,_⟩:=rep_lst.mp r;rfl
 |rol b=>obtain⟨a,vs,rfl,_⟩:=rep_rol.mp r;rfl
 |obj C b=>obtain⟨a,C,dx,vs,rfl,_⟩:=rep_obj.mp r;rfl
 |exc C b=>obtain⟨a,C,od,vs,rfl,_⟩:=rep_exc.mp r;rfl
 |own b=>exact absurd r rep_own
 |ptr b=>rw[rep_ptr.mp r];rfl
 |dti b=>obtain⟨a,rfl,_⟩:=rep_dti.mp r;rfl
theorem qy{K:Ex}:aU K (λx y H Q=>y= .non/\Q (.bl (decide (x= .non))) H) (rdIs id):=by
 intro x y u v F H R Q fh h rx ry q
 unfold rdIs at h
 split at h
 ·exact⟨rep_non.mp ry,q _ _ F H (Grow.refl fh) h (rep_bl.mpr (by rw[qw rx];rfl))⟩
 ·exact h.elim
theorem xE{K:Ex}:aU K (λx y H Q=>y= .non/\Q (.bl (!decide (x= .non))) H) (rdIs not):=by
 intro x y u v F H R Q fh h rx ry q
 unfold rdIs at h
 split at h
 ·exact⟨rep_non.mp ry,q _ _ F H (Grow.refl fh) h (rep_bl.mpr (by rw[qw rx]))⟩
 ·exact h.elim
def rdIx:RD2:=λx y R=>match x,y with
 | .tup ds,.int i=>∃ d,atI ds i=some d/\R d
 | .lst ds,.int i=>∃ d,atI ds i=some d/\R d
 | .rol ds,.int i=>∃ d,atI ds i=some d/\R d
 | .str x,.int i=>∃ c,(x.length<=1000000/\atI x.cps.toList i=some c)/\R (.str ⟨#[c]⟩)
 |_,_=>False
theorem Reps.at{K:Ex}{H:Hp}{ds:List D}{vs:List V}{i:Int}{d:D}(r:Reps K H ds vs)(e:atI ds i=some d):∃ v,atI vs i=some v/\Rep K H d v:=by
 unfold atI at e ⊢
 rw[r.length]
 cases q:ixN ds.length i with
 |none=>rw[q] at e;cases e
 |some j=>
  rw[q] at e
  exact r.get e
theorem qz{K:Ex}:aU K (rIx K) rdIx:=by
 intro x y u v F H R Q fh h rx ry q
 unfold rdIx at h
 split at h
 ·obtain⟨d,e,h⟩:=h
  obtain⟨a,vs,e1,hq,rs⟩:=rep_tup_mp rx
  obtain⟨w,e2,g8⟩:=rs.at e
  exact .inr (.inl ⟨a,vs,_,w,e1,rep_int.mp ry,fh.tup hq,e2,q d w F H (Grow.refl fh) h g8⟩)
 ·obtain⟨d,e,h⟩:=h
  obtain⟨a,vs,e1,hq,rs⟩:=rep_lst.mp rx
  obtain⟨w,e2,g8⟩:=rs.at e
  exact .inl ⟨a,vs,_,w,e1,rep_int.mp ry,fh.seq (SqL.of hq),e2,q d w F H (Grow.refl fh) h g8⟩
 ·obtain⟨d,e,h⟩:=h
  obtain⟨a,vs,e1,hq,rs⟩:=rep_rol.mp rx
  obtain⟨w,e2,g8⟩:=rs.at e
  exact .inl ⟨a,vs,_,w,e1,rep_int.mp ry,fh.seq hq,e2,q d w F H (Grow.refl fh) h g8⟩
 ·obtain⟨c,⟨hz,e⟩,h⟩:=h
  exact .inr (.inr ⟨_,_,c,rep_str.mp rx,rep_int.mp ry,E4 hz (by decide),e,q _ _ F H (Grow.refl fh) h (rep_str.mpr rfl)⟩)
 ·exact h.elim
theorem af[Jx](ha:WDE X a ta)(hb:WDE X b tb)(hs:dW b:=by exact λ_ _=>rfl):WDE X (.Subscript a b pos) (dOp rdIx ta tb):=⟨have ha:=ha.out;have hb:=hb.out;xq pZ qz ha hb hs⟩
def dUn(r:D->(D->Prop)->Prop)(ta:TD):TD:=λz R=>ta z λx=>r x R
def qA:D->(D->Prop)->Prop:=λx R=>match x with| .int i=>R (.int (-i))|_=>False
theorem bW[Jx](ha:WDE X a ta):WDE X (.UnaryOp .USub a pos) (dUn qA ta):=⟨have ha:=ha.out;(vw vE ha).anti λs H Q h=>by
 obtain⟨B,F,z,kf,rs,R,h1,h2⟩:=h
 have fh:=kf.fh
 refine⟨B,F,z,kf,rs,_,h1,λx u F1 H1 g1 hx rx=>?_⟩
 unfold qA at hx
 split at hx
 ·exact⟨_,rep_int.mp rx,h2 _ _ F1 H1 g1 hx (rep_int.mpr rfl)⟩
 ·exact hx.elim⟩
def dNil:TDA:=λ_ R=>R []
def xF(ta:TD)(tr:TDA):TDA:=λz R=>ta z λx=>tr z λxs=>R (x::xs)
theorem ae[Jx]:WDA X [] dNil:=⟨pa_nil.anti λs H Q h=>by
 obtain⟨B,F,z,kf,rs,R,h1,h2⟩:=h
 have fh:=kf.fh
 exact h2 [] [] F H (Grow.refl fh) h1 (reps_nil.mpr rfl)⟩
theorem ac[Jx]{e:Expr}{es:List Expr}{te:TD}{t:TDA}(ha:WDE X e te)(hr:WDA X es t)(hs:zSE X e es:=by rfl):WDA X (e::es) (xF te t):=⟨have ha:=ha.out;have hr:=hr.out;(bj ha hr hs).anti λs H Q h=>by
 obtain⟨B,F,z,kf,rs,R,h1,h2⟩:=h
 have fh:=kf.fh
 refine⟨B,F,z,kf,rs,_,h1,λx u F1 H1 g1 hx rx=>?_⟩
 refine⟨B,F1,z,kf.grow g1,rs.grow g1,_,hx,λxs us F2 H2 g2 hy ry=>?_⟩
 exact h2 _ _ F2 H2 (g1.trans g2) hy (reps_cons.mpr ⟨_,_,rfl,rx.mono g2.ff,ry⟩)⟩
def dTup(t:TDA):TD:=λz R=>t z λxs=>xs.length<=1000/\R (.tup xs)
def dLst(t:TDA):TD:=λz R=>t z λxs=>xs.length<=1000/\R (.lst xs)
theorem aJ[Jx]{es:List Expr}{t:TDA}{x1}(h:WDA X es t):WDE X (.Tuple es x1 pos) (dTup t):=⟨have h:=h.out;(pL h).anti λs H Q q=>by
 obtain⟨B,F,z,kf,rs,R,h1,h2⟩:=q
 have fh:=kf.fh
 refine⟨B,F,z,kf,rs,_,h1,λds vs F1 H1 g1 hx rx=>?_⟩
 have hl:=rx.length
 refine⟨sz (by rw[hl];exact hx.1),λp hp=>?_⟩
 exact h2 _ _ _ _ (g1.trans (Grow.new g1.fh hp _)) hx.2 (rep_tupS.mpr ⟨p,vs,rfl,az,rx.mono (aQ (g1.fh.free hp) _)⟩)⟩
theorem br[Jx]{es:List Expr}{t:TDA}(h:WDA X es t):WDE X (.List es pos) (dLst t):=⟨have h:=h.out;(jz h).anti λs H Q q=>by
 obtain⟨B,F,z,kf,rs,R,h1,h2⟩:=q
 have fh:=kf.fh
 refine⟨B,F,z,kf,rs,_,h1,λds vs F1 H1 g1 hx rx=>?_⟩
 have hl:=rx.length
 refine⟨sz (by rw[hl];exact hx.1),λp hp=>?_⟩
 exact h2 _ _ _ _ (g1.trans (Grow.new g1.fh hp _)) hx.2 (rep_lst.mpr ⟨p,vs,rfl,az,rx.mono (aQ (g1.fh.free hp) _)⟩)⟩
abbrev SpD:=List D->(D->Prop)->Prop
def lSp(K:Ex)(S:SpD):Sp:=λvs H Q _=>∃ F ds,Same F H/\Reps K F ds vs/\∃ R:D->Prop,S ds R/\∀ d v F' H',Grow F H F' H'->R d->Rep K F' d v->Q v H'
def xG(S:SpD)(t:TDA):TD:=λz R=>t z λds=>S ds R
abbrev CalD(P:Program)(w:World)(K:Ex)(mg:Str->Option Value)(base:Heap)(n:Nat)(x:Str)(ps:List Str)(S:SpD):Prop:=Cal P w K mg base n x ps (lSp K S)
theorem aq[Jx]{n m:Nat}{ps:List Str}{S:SpD}{x:Str}{p:Pos}{e:Expr}{es:List Expr}{t:TDA}(C:CalD X.prog X.w X.K X.mg X.base n x ps S)(hr:Room m X.A)(ha:WDA X (e::es) t)(hg:Gl X x:=by rfl)(hn:n<=m:=by decide)(d7:zND x:=by decide)
  (he:zSE X e es:=by rfl) (b_:zPL X pos es:=by rfl):WDE X (.Call (.Name x p) (e::es) [] pos) (xG S t):=⟨have ha:=ha.out;(xo C hr ha hg hn d7 he b_).anti λs H Q h=>by
 obtain⟨B,F,z,kf,rs,R,h1,h2⟩:=h
 have fh:=kf.fh
 refine⟨B,F,z,kf,rs,_,h1,λds vs F1 H1 g1 hx rx=>?_⟩
 exact⟨F1,ds,g1.fh,by rw[FA];exact rx,R,hx,λd v F' H' g=>h2 d v F' H' (g1.trans g)⟩⟩
abbrev RDn:=List D->(D->Prop)->Prop
def bO(K:Ex)(r:List V->Hp->VK->Prop)(rd:RDn):Prop:=∀ ds vs F H R Q,Same F H->rd ds R->Reps K F ds vs->(∀ d w F' H',Grow F H F' H'->R d->Rep K F' d w->Q w H')->r vs H Q
def dCB(r:RDn)(t:TDA):TD:=λz R=>t z λds=>r ds R
theorem fw[Jx]{x:Str}{p:Pos}{e:Expr}{es:List Expr}{t:TDA}{id:String}{r:List V->Hp->VK->Prop}{rd:RDn}(hc:bw X (.builtin id) r)(L:bO X.K r rd)(hm:X.mg x=none)(hv:bootBuiltins x=some (.builtin id))(ha:DA X (e::es) t)(hg:Gl X x:=by rfl)(hn:x≠"__name__":=by decide)(d7:zND x:=by decide)
  (he:zSE X e es:=by rfl) (b_:zPL X pos es:=by rfl):DE X (.Call (.Name x p) (e::es) [] pos) (dCB rd t):=(fZ hc hg hm hv ha hn d7 he b_).anti λs H Q h=>by
 obtain⟨B,F,z,kf,rs,R,h1,h2⟩:=h
 have fh:=kf.fh
 refine⟨B,F,z,kf,rs,_,h1,λds vs F1 H1 g1 hx rx=>?_⟩
 exact L ds vs F1 H1 R Q g1.fh hx rx λd w F' H' g=>h2 d w F' H' (g1.trans g)
def rdLen:RDn:=λds R=>match ds with
 |[.tup xs]=>R (.int xs.length)
 |[.lst xs]=>R (.int xs.length)
 |[.rol xs]=>R (.int xs.length)
 |[.str x]=>x.length<=1000000/\R (.int x.length)
 |_=>False
theorem qB{K:Ex}:bO K (λxs H Q=>∃ x n,xs=[x]/\LenV K x H n/\Q (.int n) H) rdLen:=by
 intro ds vs F H R Q fh h rx q
 unfold rdLen at h
 split at h
 ·obtain⟨v,r,rfl,h1,h2⟩:=reps_cons.mp rx
  rw[reps_nil.mp h2]
  obtain⟨a,us,rfl,hq,rs⟩:=rep_tup_mp h1
  exact⟨.ref a,us.length,rfl,.inr ⟨us,fh.tup hq,rfl⟩,q _ _ F H (Grow.refl fh) h (rep_int.mpr (by rw[rs.length]))⟩
 ·obtain⟨v,r,rfl,h1,h2⟩:=reps_cons.mp rx
  rw[reps_nil.mp h2]
  obtain⟨a,us,rfl,hq,rs⟩:=rep_lst.mp h1
  exact⟨.ref a,us.length,rfl,.inl ⟨us,fh.seq (SqL.of hq),rfl⟩,q _ _ F H (Grow.refl fh) h (rep_int.mpr (by rw[rs.length]))⟩
 ·obtain⟨v,r,rfl,h1,h2⟩:=reps_cons.mp rx
  rw[reps_nil.mp h2]
  obtain⟨a,us,rfl,hq,rs⟩:=rep_rol.mp h1
  exact⟨.ref a,us.length,rfl,.inl ⟨us,fh.seq hq,rfl⟩,q _ _ F H (Grow.refl fh) h (rep_int.mpr (by rw[rs.length]))⟩
 ·obtain⟨v,r,rfl,h1,h2⟩:=reps_cons.mp rx
  rw[reps_nil.mp h2,rep_str.mp h1]
  exact⟨.str _,_,rfl,⟨E4 h.1 (by decide),rfl⟩,q _ _ F H (Grow.refl fh) h.2 (rep_int.mpr rfl)⟩
 ·exact h.elim
theorem cQ[Jx]{p:Pos}{e:Expr}{t:TDA}(hm:X.mg "len"=none)(ha:WDA X [e] t)(hg:Gl X "len":=by rfl)(he:zSE X e []:=by rfl):WDE X (.Call (.Name "len" p) [e] [] pos) (dCB rdLen t):=⟨have ha:=ha.out;fw jx qB hm PySem.boot_len ha hg (by decide) (by decide) he⟩
def rdAbs:RDn:=λds R=>match ds with
 |[.int i]=>R (.int (if i<0 then -i else i))
 |_=>False
theorem xH{K:Ex}:bO K (λxs H Q=>∃ i,xs=[.int i]/\Q (.int (if i<0 then -i else i)) H) rdAbs:=by
 intro ds vs F H R Q fh h rx q
 unfold rdAbs at h
 split at h
 ·obtain⟨v,r,rfl,h1,h2⟩:=reps_cons.mp rx
  rw[reps_nil.mp h2,rep_int.mp h1]
  exact⟨_,rfl,q _ _ F H (Grow.refl fh) h (rep_int.mpr rfl)⟩
 ·exact h.elim
theorem eg[Jx]{p:Pos}{e:Expr}{t:TDA}(hm:X.mg "abs"=none)(ha:WDA X [e] t)(hg:Gl X "abs":=by rfl)(he:zSE X e []:=by rfl):WDE X (.Call (.Name "abs" p) [e] [] pos) (dCB rdAbs t):=⟨have ha:=ha.out;fw vQ xH hm PyProof.Rows.boot_abs ha hg (by decide) (by decide) he⟩
end
section
variable {X:Cx}{a b c e:Expr}{ta tb tc te:TD}{pos:Pos}
def dTst(t:TD):TDT:=λz R=>t z λx=>match x with| .bl k=>R k|_=>False
theorem cR[Jx]{op:CmpOp}{r:R2}{rd:RD2}(ho:OpR X (compareOp op) r)(L:aU X.K r rd)(ha:DE X a ta)(hb:DE X b tb)(hm:behindInMarks op b=false):DT X (.Compare a [op] [b] pos) (dTst (dOp rd ta tb)):=(pF ho ha hb hm).anti λs H Q q=>by
 obtain⟨B,F,z,kf,rs,R,h1,h2⟩:=q
 have fh:=kf.fh
 refine⟨B,F,z,kf,rs,_,h1,λx u F1 H1 g1 hx rx=>?_⟩
 refine⟨B,F1,z,kf.grow g1,rs.grow g1,_,hx,λy v F2 H2 g2 hy ry=>?_⟩
 refine L x y u v F2 H2 _ _ g2.fh hy (rx.mono g2.ff) ry λd w F' H' g3 hd rd=>?_
 split at hd
 ·exact⟨_,rep_bl.mp rd,h2 _ F' H' (g1.trans (g2.trans g3)) hd⟩
 ·exact hd.elim
theorem dz[Jx](ha:WDE X a ta)(hb:WDE X b tb):WDT X (.Compare a [.Lt] [b] pos) (dTst (dOp rdLt ta tb)):=⟨have ha:=ha.out;have hb:=hb.out;cR jw jG ha hb (nomark _)⟩
theorem xI[Jx](ha:WDE X a ta)(hb:WDE X b tb):WDT X (.Compare a [.LtE] [b] pos) (dTst (dOp rdLe ta tb)):=⟨have ha:=ha.out;have hb:=hb.out;cR pC qu ha hb (nomark _)⟩
theorem qC[Jx](ha:WDE X a ta)(hb:WDE X b tb):WDT X (.Compare a [.Gt] [b] pos) (dTst (dOp rdGt ta tb)):=⟨have ha:=ha.out;have hb:=hb.out;cR vG xB ha hb (nomark _)⟩
theorem qD[Jx](ha:WDE X a ta)(hb:WDE X b tb):WDT X (.Compare a [.GtE] [b] pos) (dTst (dOp rdGe ta tb)):=⟨have ha:=ha.out;have hb:=hb.out;cR vH xC ha hb (nomark _)⟩
theorem bt[Jx](ha:WDE X a ta)(hb:WDE X b tb):WDT X (.Compare a [.Eq] [b] pos) (dTst (dOp rdEq ta tb)):=⟨have ha:=ha.out;have hb:=hb.out;cR jv jH ha hb (nomark _)⟩
theorem cw[Jx](ha:WDE X a ta)(hb:WDE X b tb):WDT X (.Compare a [.NotEq] [b] pos) (dTst (dOp rdNe ta tb)):=⟨have ha:=ha.out;have hb:=hb.out;cR vF xD ha hb (nomark _)⟩
theorem qE[Jx](ha:WDE X a ta)(hb:WDE X b tb):WDT X (.Compare a [.Is] [b] pos) (dTst (dOp (rdIs id) ta tb)):=⟨have ha:=ha.out;have hb:=hb.out;cR pD qy ha hb (nomark _)⟩
theorem xJ[Jx](ha:WDE X a ta)(hb:WDE X b tb):WDT X (.Compare a [.IsNot] [b] pos) (dTst (dOp (rdIs not) ta tb)):=⟨have ha:=ha.out;have hb:=hb.out;cR vI xE ha hb (nomark _)⟩
def dTru(t:TD):TDT:=λz R=>t z λx=>match x with
 | .non=>R false
 | .bl k=>R k
 | .int i=>R (i !=0)
 | .str y=>y.length<=1000/\R ((y.length:Int) !=0)
 | .tup xs=>R (!xs.isEmpty)
 | .lst xs=>R (!xs.isEmpty)
 | .rol xs=>R (!xs.isEmpty)
 |_=>False
theorem Reps.isEmpty{K:Ex}{H:Hp}{ds:List D}{vs:List V}(r:Reps K H ds vs):vs.isEmpty=ds.isEmpty:=by
 cases ds with
 |nil=>rw[reps_nil.mp r];rfl
 |cons d ds=>obtain⟨v,r',rfl,_⟩:=reps_cons.mp r;rfl
theorem bX[Jx](ha:WDE X a ta)(he:∀ g7,isTrue a X.env g7=(do let v <- g7;standAt a.pos;holding [v] (truthy v)):=by exact λ_=>rfl):WDT X a (dTru ta):=⟨have ha:=ha.out;(vO ha he).anti λs H Q q=>by
 obtain⟨B,F,z,kf,rs,R,h1,h2⟩:=q
 have fh:=kf.fh
 refine⟨B,F,z,kf,rs,_,h1,λx u F1 H1 g1 hx rx=>?_⟩
 split at hx
 ·rw[rep_non.mp rx];exact⟨false,rfl,h2 _ F1 H1 g1 hx⟩
 ·rw[rep_bl.mp rx];exact⟨_,rfl,h2 _ F1 H1 g1 hx⟩
 ·rw[rep_int.mp rx];exact⟨_,rfl,h2 _ F1 H1 g1 hx⟩
 ·rw[rep_str.mp rx];exact⟨_,⟨sz hx.1,rfl⟩,h2 _ F1 H1 g1 hx.2⟩
 ·obtain⟨p,vs,rfl,hq,rr⟩:=rep_tup_mp rx
  exact⟨_,.inr (.inl ⟨vs,g1.fh.tup hq,by rw[rr.isEmpty]⟩),h2 _ F1 H1 g1 hx⟩
 ·obtain⟨p,vs,rfl,hq,rr⟩:=rep_lst.mp rx
  exact⟨_,.inl ⟨vs,g1.fh.seq (SqL.of hq),by rw[rr.isEmpty]⟩,h2 _ F1 H1 g1 hx⟩
 ·obtain⟨p,vs,rfl,hq,rr⟩:=rep_rol.mp rx
  exact⟨_,.inl ⟨vs,g1.fh.seq hq,by rw[rr.isEmpty]⟩,h2 _ F1 H1 g1 hx⟩
 ·exact hx.elim⟩
variable {tA y_:TDT}{rest:List Expr}
def dAnd(t u:TDT):TDT:=λz R=>t z λc=>if c=true then u z R else R false
def dOr(t u:TDT):TDT:=λz R=>t z λc=>if c=true then R true else u z R
def dNot(t:TDT):TDT:=λz R=>t z λc=>R (!c)
theorem qF[Jx](ha:WDT X a tA):WDW X (.BoolOp .And [a] pos) tA:=⟨have ha:=ha.out;oS ha⟩
theorem fz[Jx](ha:WDT X a tA):WDW X (.BoolOp .Or [a] pos) tA:=⟨have ha:=ha.out;oU ha⟩
theorem qG[Jx](ha:WDT X a tA)(hb:WDW X (.BoolOp .And (b::rest) pos) y_):WDW X (.BoolOp .And (a::b::rest) pos) (dAnd tA y_):=⟨have ha:=ha.out;have hb:=hb.out;(oV ha hb).anti λs H Q q=>by
 obtain⟨B,F,z,kf,rs,R,h1,h2⟩:=q
 have fh:=kf.fh
 refine⟨B,F,z,kf,rs,_,h1,λk F1 H1 g1 hx=>?_⟩
 cases k with
 |true=>exact⟨B,F1,z,kf.grow g1,rs.grow g1,R,hx,λb F' H' g=>h2 b F' H' (g1.trans g)⟩
 |false=>exact h2 _ F1 H1 g1 hx⟩
theorem fA[Jx](ha:WDT X a tA)(hb:WDW X (.BoolOp .Or (b::rest) pos) y_):WDW X (.BoolOp .Or (a::b::rest) pos) (dOr tA y_):=⟨have ha:=ha.out;have hb:=hb.out;(oW ha hb).anti λs H Q q=>by
 obtain⟨B,F,z,kf,rs,R,h1,h2⟩:=q
 have fh:=kf.fh
 refine⟨B,F,z,kf,rs,_,h1,λk F1 H1 g1 hx=>?_⟩
 cases k with
 |false=>exact⟨B,F1,z,kf.grow g1,rs.grow g1,R,hx,λb F' H' g=>h2 b F' H' (g1.trans g)⟩
 |true=>exact h2 _ F1 H1 g1 hx⟩
theorem dA[Jx](h:WDW X a tA):WDT X a tA:=⟨have h:=h.out;PW.pt h⟩
theorem dB[Jx](ha:WDT X a tA):WDT X (.UnaryOp .Not a pos) (dNot tA):=⟨have ha:=ha.out;(va ha).anti λs H Q q=>by
 obtain⟨B,F,z,kf,rs,R,h1,h2⟩:=q
 have fh:=kf.fh
 exact⟨B,F,z,kf,rs,_,h1,λk F1 H1 g1 hx=>h2 _ F1 H1 g1 hx⟩⟩
def xK(ta tb:TD):TD:=λz R=>ta z λx=>match x with| .bl k=>if k=true then tb z R else R (.bl false)|_=>False
def xL(ta:TD):TD:=λz R=>ta z λx=>match x with| .bl k=>R (.bl (!k))|_=>False
theorem gm[Jx]{op}(h:WDE X a ta):WDE X (.BoolOp op [a] pos) ta:=⟨have h:=h.out;vd h⟩
theorem gp[Jx](ha:WDE X a ta)(hb:WDE X (.BoolOp .And (b::rest) pos) tb):WDE X (.BoolOp .And (a::b::rest) pos) (xK ta tb):=⟨have ha:=ha.out;have hb:=hb.out;(ve ha hb).anti λs H Q q=>by
 obtain⟨B,F,z,kf,rs,R,h1,h2⟩:=q
 have fh:=kf.fh
 refine⟨B,F,z,kf,rs,_,h1,λx u F1 H1 g1 hx rx=>?_⟩
 split at hx
 ·rename_i k
  refine⟨k,rep_bl.mp rx,?_⟩
  cases k with
  |true=>exact⟨B,F1,z,kf.grow g1,rs.grow g1,R,hx,λd v F' H' g=>h2 d v F' H' (g1.trans g)⟩
  |false=>exact h2 _ _ F1 H1 g1 hx (rep_bl.mpr rfl)
 ·exact hx.elim⟩
theorem xM[Jx](ha:WDE X a ta):WDE X (.UnaryOp .Not a pos) (xL ta):=⟨have ha:=ha.out;(vf ha).anti λs H Q q=>by
 obtain⟨B,F,z,kf,rs,R,h1,h2⟩:=q
 have fh:=kf.fh
 refine⟨B,F,z,kf,rs,_,h1,λx u F1 H1 g1 hx rx=>?_⟩
 split at hx
 ·exact⟨_,rep_bl.mp rx,h2 _ _ F1 H1 g1 hx (rep_bl.mpr rfl)⟩
 ·exact hx.elim⟩
def dIf(t:TDT)(ta tb:TD):TD:=λz R=>t z λc=>if c=true then ta z R else tb z R
theorem xN[Jx](hc:WDT X c tA)(ha:WDE X a ta)(hb:WDE X b tb):WDE X (.IfExp c a b pos) (dIf tA ta tb):=⟨have hc:=hc.out;have ha:=ha.out;have hb:=hb.out;(oX hc ha hb).anti λs H Q q=>by
 obtain⟨B,F,z,kf,rs,R,h1,h2⟩:=q
 have fh:=kf.fh
 refine⟨B,F,z,kf,rs,_,h1,λk F1 H1 g1 hx=>?_⟩
 cases k with
 |false=>exact⟨B,F1,z,kf.grow g1,rs.grow g1,R,hx,λd v F' H' g=>h2 d v F' H' (g1.trans g)⟩
 |true=>exact⟨B,F1,z,kf.grow g1,rs.grow g1,R,hx,λd v F' H' g=>h2 d v F' H' (g1.trans g)⟩⟩
def tyD:D->String
 | .non=>"NoneType"| .bl _=>"bool"| .int _=>"int"| .str _=>"str"| .tup _=>"tuple"| .lst _=>"list"| .rol _=>"list"| .obj _ _=>"object"| .exc _ _=>"object"| .own _=>"list"| .ptr _=>"object"| .dti _=>"dict"
def el(t:String)(x:D):Bool:=tyD x==t||(tyD x=="bool" && t=="int")
def TyQ(K:Ex)(H:Hp)(x:V)(t:String):Prop:=TyOf K H x (.type t)\/(t="tuple"/\∃ a xs,x= .ref a/\SqT K H a xs)\/(t="list"/\∃ a xs,x= .ref a/\SqL K H a xs)
theorem xO:bw X (.builtin "isinstance") (λxs H Q=>∃ x t c k,xs=[x,.ty c]/\TyQ X.K H x t/\kitOne X.K (.type t) (.type c)=some k/\Q (.bl k) H):=by
 intro pins s σ H xs us Q I r h
 obtain⟨x,t,c,k,rfl,ty,e,q⟩:=h
 obtain⟨u,u',rfl,rx,rc⟩:=fq r
 cases(show u'=Value.type c from rc)
 rcases ty with ty|⟨rfl,a,ys,rfl,hq⟩|⟨rfl,a,ys,rfl,hq⟩
 ·exact wg I rx ty e λtk=>⟨.bl k,H,I.tok _,rfl,q⟩
 ·cases(show u=Value.ref a from rx)
  obtain⟨its,_,⟨o,h1,h2,_⟩,_⟩:=I.tuple hq
  exact kia_one kitx_tuple I.kIn ⟨o,h1,h2⟩ e (λz=>nomatch z) λtk=>⟨.bl k,H,I.tok _,rfl,q⟩
 ·cases(show u=Value.ref a from rx)
  obtain⟨its,_,pl,_⟩:=I.list hq
  obtain⟨o,n,h1,h2,_⟩:=pl
  exact kia_one kitx_list I.kIn ⟨o,h1,h2⟩ e (λz=>nomatch z) λtk=>⟨.bl k,H,I.tok _,rfl,q⟩
def eo:D->Bool| .obj _ _=>false| .exc _ _=>false| .ptr _=>false| .dti _=>false|_=>true
theorem xP{K:Ex}{F H:Hp}{x:D}{u:V}(fh:Same F H)(r:Rep K F x u)(no:eo x=true):TyQ K H u (tyD x):=by
 cases x with
 |non=>rw[rep_non.mp r];exact .inl .non
 |bl b=>rw[rep_bl.mp r];exact .inl (.bl b)
 |int b=>rw[rep_int.mp r];exact .inl (.int b)
 |str b=>rw[rep_str.mp r];exact .inl (.str b)
 |tup b=>obtain⟨a,vs,rfl,hq,_⟩:=rep_tup_mp r;exact .inr (.inl ⟨rfl,a,vs,rfl,fh.tup hq⟩)
 |lst b=>obtain⟨a,vs,rfl,hq,_⟩:=rep_lst.mp r;exact .inr (.inr ⟨rfl,a,vs,rfl,fh.seq (SqL.of hq)⟩)
 |rol b=>obtain⟨a,vs,rfl,hq,_⟩:=rep_rol.mp r;exact .inr (.inr ⟨rfl,a,vs,rfl,fh.seq hq⟩)
 |obj C b=>cases no
 |exc C b=>cases no
 |ptr b=>cases no
 |dti b=>cases no
 |own b=>exact absurd r rep_own
def xQ(t:String):D->(D->Prop)->Prop:=λx R=>match x with| .obj _ _=>False| .exc _ _=>False| .ptr _=>False| .dti _=>False|x=>R (.bl (el t x))
theorem jI[Jx]{p p2:Pos}{y:Str}{t:String}(hm:X.mg "isinstance"=none)(OY:X.mg y=none)(ha:WDE X a ta)(hv:bootBuiltins y=some (.type t))
  (hk:∀ x:D,eo x=true->kitOne X.K (.type (tyD x)) (.type t)=some (el t x)) (hg:Gl X "isinstance":=by rfl) (OZ:Gl X y:=by rfl) (hn:y≠"__name__":=by decide) (d7:zND y:=by decide)
  (n5:starEach [a,.Name y p2] X.env=(false,eval a X.env)::starEach [.Name y p2] X.env:=by rfl) (m5:starEach [.Name y p2] X.env=(false,eval (.Name y p2) X.env)::starEach [] X.env:=by rfl) (b_:(backTo pos (starEach [.Name y p2] X.env)).any (·.1)=false:=by rfl):WDE X (.Call (.Name "isinstance" p) [a,.Name y p2] [] pos) (dUn (xQ t) ta):=⟨have ha:=ha.out;(fZ xO hg hm PyProof.Rows.boot_isinstance (bj ha (bj (uz (v:= .ty t) OZ OY hv rfl hn d7) pa_nil m5) n5) (by decide) (by decide) n5 b_).anti λs H Q q=>by
 obtain⟨B,F,z,kf,rs,R,h1,h2⟩:=q
 have fh:=kf.fh
 refine⟨B,F,z,kf,rs,_,h1,λx u F1 H1 g1 hx rx=>?_⟩
 have no:eo x=true:=by
  cases x with
  |obj C b=>exact False.elim hx
  |exc C b=>exact False.elim hx
  |ptr b=>exact False.elim hx
  |dti b=>exact False.elim hx
  |_=>rfl
 have i6:R (.bl (el t x)):=by
  cases x with
  |obj C b=>exact False.elim hx
  |exc C b=>exact False.elim hx
  |ptr b=>exact False.elim hx
  |dti b=>exact False.elim hx
  |_=>exact hx
 exact⟨u,tyD x,t,_,rfl,xP g1.fh rx no,hk x no,h2 _ _ F1 H1 g1 i6 (rep_bl.mpr rfl)⟩⟩
theorem xR{K:Ex}:∀ x:D,eo x=true->kitOne K (.type (tyD x)) (.type "int")=some (el "int" x):=by intro x no;cases x<;>first|rfl|cases no
theorem kit_bool{K:Ex}:∀ x:D,eo x=true->kitOne K (.type (tyD x)) (.type "bool")=some (el "bool" x):=by intro x no;cases x<;>first|rfl|cases no
theorem kit_str{K:Ex}:∀ x:D,eo x=true->kitOne K (.type (tyD x)) (.type "str")=some (el "str" x):=by intro x no;cases x<;>first|rfl|cases no
def toV:D->Option V
 | .non=>some .non| .bl b=>some (.bl b)| .int i=>some (.int i)| .str x=>some (.str x)|_=>none
def bY(d:D):Bool:=(toV d).isSome
def eqF:D->D->Bool
 | .non,.non=>true
 | .bl a,.bl b=>a==b
 | .bl a,.int b=>(if a then 1 else 0)==b
 | .int a,.bl b=>a==(if b then 1 else 0)
 | .int a,.int b=>a==b
 | .str a,.str b=>a==b
 |_,_=>false
end
section
variable {X:Cx}{a b:Expr}{ta tb:TD}{pos:Pos}
theorem Vals.getD{xs:List V}{us:List Value}{j:Nat}(r:Vals xs us)(h:j<us.length):RelV (xs.getD j .non) us[j]:=by
 have hl:=L2.Vals.length r
 obtain⟨u,q1,q2⟩:=L2.Vals.get (i:=j) (x:=xs.getD j .non) r (by rw[Fj (by lia)];simp[FL,Fj (show j<xs.length by lia)])
 rw[Fj h] at q1
 cases q1
 exact q2
theorem eqV_of{K:Ex}{H:Hp}{x y:D}{u v:V}(rx:Rep K H x u)(ry:Rep K H y v)(fx:bY x=true)(fy:bY y=true):eqV u v=eqF x y:=by
 cases x with
 |tup _=>cases fx
 |lst _=>cases fx
 |rol _=>cases fx
 |obj _ _=>cases fx
 |exc _ _=>cases fx
 |ptr _=>cases fx
 |dti _=>cases fx
 |own _=>cases fx
 |non=>rw[rep_non.mp rx];cases y with
  |tup _=>cases fy
  |lst _=>cases fy
  |rol _=>cases fy
  |obj _ _=>cases fy
  |exc _ _=>cases fy
  |ptr _=>cases fy
  |dti _=>cases fy
  |own _=>cases fy
  |non=>rw[rep_non.mp ry];rfl
  |bl _=>rw[rep_bl.mp ry];rfl
  |int _=>rw[rep_int.mp ry];rfl
  |str _=>rw[rep_str.mp ry];rfl
 |bl _=>rw[rep_bl.mp rx];cases y with
  |tup _=>cases fy
  |lst _=>cases fy
  |rol _=>cases fy
  |obj _ _=>cases fy
  |exc _ _=>cases fy
  |ptr _=>cases fy
  |dti _=>cases fy
  |own _=>cases fy
  |non=>rw[rep_non.mp ry];rfl
  |bl _=>rw[rep_bl.mp ry];rfl
  |int _=>rw[rep_int.mp ry];rfl
  |str _=>rw[rep_str.mp ry];rfl
 |int _=>rw[rep_int.mp rx];cases y with
  |tup _=>cases fy
  |lst _=>cases fy
  |rol _=>cases fy
  |obj _ _=>cases fy
  |exc _ _=>cases fy
  |ptr _=>cases fy
  |dti _=>cases fy
  |own _=>cases fy
  |non=>rw[rep_non.mp ry];rfl
  |bl _=>rw[rep_bl.mp ry];rfl
  |int _=>rw[rep_int.mp ry];rfl
  |str _=>rw[rep_str.mp ry];rfl
 |str _=>rw[rep_str.mp rx];cases y with
  |tup _=>cases fy
  |lst _=>cases fy
  |rol _=>cases fy
  |obj _ _=>cases fy
  |exc _ _=>cases fy
  |ptr _=>cases fy
  |dti _=>cases fy
  |own _=>cases fy
  |non=>rw[rep_non.mp ry];rfl
  |bl _=>rw[rep_bl.mp ry];rfl
  |int _=>rw[rep_int.mp ry];rfl
  |str _=>rw[rep_str.mp ry];rfl
theorem gq{K:Ex}{H:Hp}{x:D}{u:V}(rx:Rep K H x u)(fx:bY x=true):cu u=true:=by
 cases x with
 |tup _=>cases fx
 |lst _=>cases fx
 |rol _=>cases fx
 |obj _ _=>cases fx
 |exc _ _=>cases fx
 |ptr _=>cases fx
 |dti _=>cases fx
 |own _=>cases fx
 |non=>rw[rep_non.mp rx];rfl
 |bl _=>rw[rep_bl.mp rx];rfl
 |int _=>rw[rep_int.mp rx];rfl
 |str _=>rw[rep_str.mp rx];rfl
theorem gu{K:Ex}{H:Hp}:∀ {xs:List D} {us:List V},Reps K H xs us->xs.all bY=true->us.all cu=true
 |[],us,r,_=>by rw[reps_nil.mp r];rfl
 |x::xs,us,r,f=>by
  obtain⟨v,vr,rfl,r1,r2⟩:=reps_cons.mp r
  rw[GB,FC] at f ⊢
  exact⟨gq r1 f.1,gu r2 f.2⟩
end
section
variable {X:Cx}{a b c e:Expr}{ta tb tc te:TD}{pos:Pos}{st:Stmt}{rest:List Stmt}{t u:TSD}
def xS:TSD:=λE z=>E.nx z
def dSeq(t u:TSD):TSD:=λE z=>t {E with nx:=u E} z
theorem aW[Jx]:WDSs X [] xS:=⟨pss_nil.anti λE s H q=>by
 obtain⟨B,F0,F,z,k,rs,ED,h,e⟩:=q
 exact e.nx z s F H k h rs⟩
theorem ah[Jx](h1:WDS X st t)(h2:WDSs X rest u):WDSs X (st::rest) (dSeq t u):=⟨have h1:=h1.out;have h2:=h2.out;(fg h1 h2).anti λE s H q=>by
 obtain⟨B,F0,F,z,k,rs,ED,h,e⟩:=q
 exact⟨B,F0,F,z,k,rs,{ED with nx:=u ED},h,⟨λz' s' F' H' k' hz r'=>⟨B,F0,F',z',k',r',ED,hz,e⟩,e.rt,e.bk,e.ct⟩⟩⟩
theorem ak[Jx](h1:WDS X st t):WDSs X [st] t:=⟨have h1:=h1.out;oY h1⟩
def dFrz(i:Nat)(t:TSD):TSD:=λE z=>match z[i]? with|some (some (.own ds))=>t E (z.set i (some (.lst ds)))|_=>False
theorem fB[Jx](i:Nat){J8:List Stmt}(h:WDSs X J8 t):WDSs X J8 (dFrz i t):=⟨have h:=h.out;PSs.anti h λE s H q=>by
 obtain⟨B,F0,F,z,k,rs,ED,h,e⟩:=q
 unfold dFrz at h
 split at h
 ·rename_i ds ez
  obtain⟨F',k',r'⟩:=rs.freeze k ez
  exact⟨B,F0,F',_,k',r',ED,h,e⟩
 ·exact h.elim⟩
def dRet(te:TD):TSD:=λE z=>te z E.rt
theorem au[Jx](he:WDE X e te):WDS X (.Return (some e) pos) (dRet te):=⟨have he:=he.out;(oZ he).anti λE s H q=>by
 obtain⟨B,F0,F,z,k,rs,ED,h,e⟩:=q
 exact⟨B,F,z,k.kf,rs,_,h,λd v F' H' g hd rd=>e.rt d v F' H' (k.grow g) hd rd⟩⟩
def xT(te:TD):TSD:=λE z=>te z λ_=>E.nx z
theorem qH[Jx](he:WDE X e te)(hs:swapsWith e none pos.line X.env=pure false:=by rfl):WDS X (.Expr e pos) (xT te):=⟨have he:=he.out;(jp he hs).anti λE s H q=>by
 obtain⟨B,F0,F,z,k,rs,ED,h,e⟩:=q
 exact⟨B,F,z,k.kf,rs,_,h,λd v F' H' g hd rd=>e.nx z s F' H' (k.grow g) hd (rs.grow g)⟩⟩
def dIfS(c:TDT)(t u:TSD):TSD:=λE z=>c z λb=>if b=true then t E z else u E z
theorem qI[Jx]{c:Expr}{l r:List Stmt}{tc:TDT}(hc:DT X c tc)(ha:DSs X l t)(hb:DSs X r u):DS X (.If c l r pos) (dIfS tc t u):=(pd hc ha hb).anti λE s H q=>by
 obtain⟨B,F0,F,z,k,rs,ED,h,e⟩:=q
 refine⟨B,F,z,k.kf,rs,_,h,λb F1 H1 g hk=>?_⟩
 cases b with
 |true=>exact⟨B,F0,F1,z,k.grow g,rs.grow g,ED,hk,e⟩
 |false=>exact⟨B,F0,F1,z,k.grow g,rs.grow g,ED,hk,e⟩
def dIfJ(c:TDT)(t u:TSD):TSD:=λE z=>∃ J:SD->Prop,(c z λb=>if b=true then t {E with nx:=J} z else u {E with nx:=J} z)/\∀ z',J z'->E.nx z'
theorem fC[Jx]{c:Expr}{l r:List Stmt}{tc:TDT}(hc:WDT X c tc)(ha:WDSs X l t)(hb:WDSs X r u):WDS X (.If c l r pos) (dIfJ tc t u):=⟨have hc:=hc.out;have ha:=ha.out;have hb:=hb.out;(qI hc ha hb).anti λE s H q=>by
 obtain⟨B,F0,F,z,k,rs,ED,⟨J,h,j⟩,e⟩:=q
 exact⟨B,F0,F,z,k,rs,{ED with nx:=J},h,⟨λz' s' F' H' k' hz r'=>e.nx z' s' F' H' k' (j z' hz) r',e.rt,e.bk,e.ct⟩⟩⟩
def dSet(i:Nat)(te:TD):TSD:=λE z=>∃ P:D->Prop,te z P/\∀ d,P d->E.nx (z.set i (some d))
theorem ai[Jx](i:Nat){x:Str}{c8:Pos}(hN:X.N.Nodup)(he:WDE X e te)(hi:X.N[i]?=some x:=by rfl)(hx:Loc X.env.scope x:=by first|exact Or.inl rfl|exact Or.inr rfl)(hs:swapsWith e (some (.Name x c8)) pos.line X.env=pure false:=by rfl)
  (hf:zFN X x:=by first|exact .inl rfl|exact .inr rfl|assumption):WDS X (.Assign [.Name x c8] e pos) (dSet i te):=⟨have he:=he.out;(jr hN hi hx he hs hf).anti λE s H q=>by
 obtain⟨B,F0,F,z,k,rs,ED,⟨P,h,j⟩,e⟩:=q
 exact⟨B,F,z,k.kf,rs,P,h,λd v F' H' g hd rd=>e.nx _ _ F' H' (k.grow g) (j d hd) ((rs.grow g).set rd)⟩⟩
def dNew(i:Nat)(ta:TDA):TSD:=λE z=>ta z λds=>ds.length<=1000/\E.nx (z.set i (some (.own ds)))
theorem jJ[Jx](i:Nat){x:Str}{c8 p2:Pos}{es:List Expr}{ta:TDA}(hN:X.N.Nodup)(he:WDA X es ta)(hi:X.N[i]?=some x:=by rfl)(hx:Loc X.env.scope x:=by first|exact Or.inl rfl|exact Or.inr rfl)(hs:swapsWith (.List es p2) (some (.Name x c8)) pos.line X.env=pure false:=by rfl)
  (hf:zFN X x:=by first|exact .inl rfl|exact .inr rfl|assumption):WDS X (.Assign [.Name x c8] (.List es p2) pos) (dNew i ta):=⟨have he:=he.out;(jr hN hi hx (jz he) hs hf).anti λE s H q=>by
 obtain⟨B,F0,F,z,k,rs,ED,h,e⟩:=q
 refine⟨B,F,z,k.kf,rs,_,h,λds vs F1 H1 g hd rd=>?_⟩
 have hl:=rd.length
 refine⟨sz (by rw[hl];exact hd.1),λp hp=>?_⟩
 have k1:=k.grow g
 have r1:=rs.grow g
 have hB:B p=none:=k1.bh.free hp
 have hF:F1 p=none:=k1.fh.free hp
 refine e.nx _ _ F1 _ ⟨k1.bh.trans (aQ hp _),k1.fh.trans (aQ hp _),k1.f0,k1.out,k1.eb,k1.jf,k1.jo⟩ hd.2 (r1.setOwn hB hF rd λj dj hj e1 e2=>?_)
 obtain⟨a,us,q1,q2,_⟩:=r1.own j dj e1
 rw[e2] at q1
 cases q1
 rw[hp] at q2
 cases q2⟩
def dApp(i:Nat)(te:TD):TSD:=λE z=>match z[i]? with|some (some (.own ds))=>(te z λd=>ds.length<=100000/\E.nx (z.set i (some (.own (ds++[d])))))|_=>False
theorem eA{K:Ex}{F:Hp}{d:D}{v:V}(r:Rep K F d v):Reps K F [d] [v]:=reps_cons.mpr ⟨v,[],rfl,r,reps_nil.mpr rfl⟩
theorem gv[Jx](i:Nat){x:Str}{p1 apos cpos:Pos}(he:WDE X e te)(hN:X.N[i]?=some x:=by rfl)(hv:Vis X.env.scope x:=by first|exact Or.inl rfl|exact Or.inr (Or.inl rfl)|exact Or.inr (Or.inr rfl))(hd:zND x:=by decide)
  (ge:zNC x:=by decide) (n5:zSE X e []:=by rfl)
  (b9:attributeBase (.Name x p1) "append" X.env (eval (.Name x p1) X.env)=eval (.Name x p1) X.env:=by rfl)
  (d9:zHF X cpos [e]:=by rfl)
  (c7:(apos.endLine==cpos.line)=true:=by rfl) (v3:swapsWith (.Call (.Attribute (.Name x p1) "append" apos) [e] [] cpos) none pos.line X.env=pure false:=by rfl):WDS X (.Expr (.Call (.Attribute (.Name x p1) "append" apos) [e] [] cpos) pos) (dApp i te):=⟨have he:=he.out;(jp (dX PySem.F.plainAttrs_list PySem.F.slot_list_append PySem.F.type_list_append gc (du hN hv hd ge) (bj he pa_nil n5) b9 d9 c7 n5) v3).anti λE s H q=>by
 obtain⟨B,F0,F,z,k,rs,ED,h,e⟩:=q
 unfold dApp at h
 split at h
 ·rename_i ds ez
  obtain⟨a,vs,q1,q2,q3,q4,q5⟩:=rs.own i ds ez
  refine⟨.ref a,q1,.inl ⟨rfl,vs,SqL.of q2⟩,?_⟩
  refine⟨B,F,z,k.kf,rs,_,h,λd v F1 H1 g hd rd=>?_⟩
  have k1:=k.grow g
  have r1:=rs.grow g
  have a1:H1 a=some (.lst vs):=g.hh a _ q2
  have f1:F1 a=none:=g.out a q4 (by rw[q2];exact λz=>nomatch z)
  have hl:vs.length=ds.length:=q5.length
  have hz:vs.length<sizeLine:=by
   have h1:ds.length<=100000:=hd.1
   have h2:(100000:Nat)<sizeLine:=by decide
   lia
  refine⟨a,vs,v,rfl,rfl,a1,hz,?_⟩
  have same:∀ {G:Hp},G a=none->Same G H1->Same G (upd H1 a (.lst (vs++[v]))):=λ{G} ga gs b o eb=>by
   have ne:b≠a:=λz=>by rw[z,ga] at eb;cases eb
   rw[ao ne];exact gs b o eb
  have r2:=r1.setOwn (i:=i) (a:=a) (vs:=vs++[v]) (ds:=ds++[d]) q3 f1 ((q5.mono g.ff).append (eA rd)) (λj dj hj e1 e2=>hj (rs.apart j i dj ds a e1 ez e2 q1))
  have es:s.set i (some (.ref a))=s:=by
   apply Gn
   intro n
   by_cases hn:i=n
   ·subst hn
    rw[FG (Fb.mp q1).1,q1]
   ·rw[Ff hn]
  rw[es] at r2
  exact e.nx _ s F1 _ ⟨same q3 k1.bh,same f1 k1.fh,k1.f0,k1.out,k1.eb,k1.jf,k1.jo⟩ hd.2 r2
 ·exact h.elim⟩
def aS:List Nat->List D->SD->SD
 |i::is,d::ds,z=>aS is ds (z.set i (some d))
 |_,_,z=>z
def DGs(X:Cx)(ts:List Expr)(is:List Nat):Prop:=∃ u:TGs,PGs X ts u/\∀ (ds:List D) (vs:List V) (z:SD) (s:L2.St) (B F H:Hp) (Q:L2.St->Hp->Prop),ds.length=is.length->Reps X.K F ds vs->RepS X.K B F H z s->(∀ s',RepS X.K B F H (aS is ds z) s'->Q s' H)->u vs s H Q
theorem dD[Jx]:DGs X [] []:=⟨_,vj,λds vs z s B F H Q hl r rs q=>by
 cases ds with
 |nil=>exact⟨reps_nil.mp r,q s rs⟩
 |cons _ _=>cases hl⟩
theorem dg_cons[Jx](i:Nat){x:Str}{p:Pos}{es:List Expr}{is:List Nat}(hN:X.N.Nodup)(h2:DGs X es is)(hi:X.N[i]?=some x:=by rfl)(hx:Loc X.env.scope x:=by first|exact Or.inl rfl|exact Or.inr rfl)(hf:zFN X x:=by first|exact .inl rfl|exact .inr rfl|assumption)
  (hs:(assignEach (.Name x p::es) X.env).map (·.2)=assign (.Name x p) X.env::(assignEach es X.env).map (·.2):=by rfl):DGs X (.Name x p::es) (i::is):=by
 obtain⟨u,hu,k⟩:=h2
 refine⟨_,vk (fk hN hi hx hf) hu hs,λds vs z s B F H Q hl r rs q=>?_⟩
 cases ds with
 |nil=>cases hl
 |cons d ds=>
  obtain⟨v,vr,rfl,r1,r2⟩:=reps_cons.mp r
  exact⟨v,vr,rfl,k ds vr _ _ B F H Q (Nat.succ.inj hl) r2 (rs.set r1) q⟩
def xU(is:List Nat)(te:TD):TSD:=λE z=>te z λx=>match x with| .tup ds=>ds.length=is.length/\E.nx (aS is ds z)|_=>False
theorem qJ[Jx]{es:List Expr}{k:Nat}{is:List Nat}{p:Pos}(hc:X.calm=true)(he:WDE X e te)(hg:DGs X es is)(hn:(assignEach es X.env).length=is.length:=by rfl)(k_:(assignEach es X.env).findIdx? (·.1)=none:=by rfl)
  (hs:swapsWithSole [.Tuple es k p] e pos.line X.env=pure false:=by rfl) (hw:swappedStores [.Tuple es k p] e X.env=pure none:=by rfl) (h1:(assignEach [.Tuple es k p] X.env).map (·.2)=[assign (.Tuple es k p) X.env]:=by rfl):WDS X (.Assign [.Tuple es k p] e pos) (xU is te):=⟨by
 have he:=he.out
 obtain⟨u,hu,kk⟩:=hg
 refine(jq he (fo hc hu hn k_) hs hw h1).anti λE s H q=>?_
 obtain⟨B,F0,F,z,k,rs,ED,h,e⟩:=q
 refine⟨B,F,z,k.kf,rs,_,h,λd v F' H' g hd rd=>?_⟩
 split at hd
 ·obtain⟨p,vs,rfl,hq,rr⟩:=rep_tup_mp rd
  exact⟨p,vs,rfl,g.fh.tup hq,by rw[rr.length];exact hd.1,kk _ vs z s B F' H' _ hd.1 rr (rs.grow g) λs' r'=>e.nx _ _ F' H' (k.grow g) hd.2 r'⟩
 ·exact hd.elim⟩
def dPar(i j:Nat)(ta:TDA):TSD:=λE z=>ta z λds=>match ds with|[x,y]=>E.nx ((z.set i (some x)).set j (some y))|_=>False
theorem xV[Jx](i j:Nat){x y:Str}{t:TDA}{px py pt:Pos}{kt k2 IL}(hc:X.calm=true)(hN:X.N.Nodup)(ha:WDA X [a,b] t)(hi:X.N[i]?=some x:=by rfl)(hj:X.N[j]?=some y:=by rfl)(Lw:i≠j:=by decide)
  (hx:X.env.scope.names.lookup x=some .local:=by rfl) (hy:X.env.scope.names.lookup y=some .local:=by rfl)
  (hw:swappedStores [.Tuple [.Name x px,.Name y py] kt pt] (.Tuple [a,b] k2 IL) X.env=pure (some [x,y]):=by rfl)
  (hs:swapsWithSole [.Tuple [.Name x px,.Name y py] kt pt] (.Tuple [a,b] k2 IL) pos.line X.env=pure false:=by rfl):WDS X (.Assign [.Tuple [.Name x px,.Name y py] kt pt] (.Tuple [a,b] k2 IL) pos) (dPar i j t):=⟨have ha:=ha.out;(vn hc hN hi hj Lw hx hy ha hw hs).anti λE s H q=>by
 obtain⟨B,F0,F,z,k,rs,ED,h,e⟩:=q
 refine⟨B,F,z,k.kf,rs,_,h,λds vs F' H' g hd rd=>?_⟩
 split at hd
 ·obtain⟨v,r,rfl,r1,r2⟩:=reps_cons.mp rd
  obtain⟨w,r,rfl,r3,r4⟩:=reps_cons.mp r2
  rw[reps_nil.mp r4]
  exact⟨v,w,rfl,e.nx _ _ F' H' (k.grow g) hd (((rs.grow g).set r1).set r3)⟩
 ·exact hd.elim⟩
def xW(c:TDT)(tb:TSD):TSD:=λE z=>∃ W:Nat->SD->Prop,(∃ m,W m z)/\∀ m z,W m z->
 c z λb=>if b=true then tb {E with nx:=λz'=>∃ m',m'<m/\W m' z',ct:=λz'=>∃ m',m'<m/\W m' z',bk:=E.nx} z else E.nx z
theorem fD[Jx]{c:Expr}{body:List Stmt}{tc:TDT}{tb:TSD}(hp:PassesOwn (model X.prog X.w) X.A X.env X.xe)(hc:WDT X c tc)(hb:WDSs X body tb):WDS X (.While c body [] pos) (xW tc tb):=⟨have hc:=hc.out;have hb:=hb.out;(pe hp hc hb).anti λE s H q=>by
 obtain⟨B,F0,F,z,k,rs,ED,⟨W,⟨m0,w0⟩,c5⟩,e⟩:=q
 refine⟨λm s' H'=>∃ F' z',Kept B F0 F' H'/\RepS X.K B F' H' z' s'/\W m z',⟨m0,F,z,k,rs,w0⟩,?_⟩
 rintro m s1 H1 ⟨F1,z1,k1,r1,w1⟩
 refine⟨B,F1,z1,k1.kf,r1,_,c5 m z1 w1,λb F2 H2 g2 hk=>?_⟩
 cases b with
 |true=>
  refine⟨λs3 H3=>∃ F3 z3,Kept B F0 F3 H3/\RepS X.K B F3 H3 z3 s3/\∃ m',m'<m/\W m' z3,λs3 H3 ⟨F3,z3,k3,r3,m',l,w3⟩=>⟨m',l,F3,z3,k3,r3,w3⟩,?_⟩
  exact⟨B,F0,F2,z1,k1.grow g2,r1.grow g2,_,hk,⟨λz3 s3 F3 H3 k3 h3 r3=>⟨F3,z3,k3,r3,h3⟩,e.rt,e.nx,λz3 s3 F3 H3 k3 h3 r3=>⟨F3,z3,k3,r3,h3⟩⟩⟩
 |false=>exact e.nx z1 s1 F2 H2 (k1.grow g2) hk (r1.grow g2)⟩
abbrev TDI:=SD->(List D->Prop)->Prop
def dItL(t:TD):TDI:=λz R=>t z λx=>match x with| .lst ds=>R ds| .rol ds=>R ds|_=>False
def dItR(t:TD):TDI:=λz R=>t z λx=>match x with| .int n=>(0<=n/\n<2 ^ 62)/\R ((ET n.toNat).map λk=>D.int ((k:Nat):Int))|_=>False
def dFor(i:Nat)(ti:TDI)(tb:TSD):TSD:=λE z=>ti z λds=>∃ W:Nat->SD->Prop,W 0 z/\(∀ k x z,ds[k]?=some x->W k z->tb {E with nx:=W (k+1),ct:=W (k+1),bk:=E.nx} (z.set i (some x)))/\∀ z,W ds.length z->E.nx z
theorem Reps.get'{K:Ex}{H:Hp}{ds:List D}{vs:List V}{k:Nat}{v:V}(r:Reps K H ds vs)(e:vs[k]?=some v):∃ d,ds[k]?=some d/\Rep K H d v:=by
 have hk:k<ds.length:=by rw[<- r.length];exact(Fb.mp e).1
 obtain⟨u,q1,q2⟩:=r.get (Fj hk)
 rw[e] at q1;cases q1
 exact⟨_,Fj hk,q2⟩
theorem gw[Jx](i:Nat){x:Str}{p:Pos}{body:List Stmt}{tb:TSD}(hp:PassesOwn (model X.prog X.w) X.A X.env X.xe)(hc:X.calm=true)(hN:X.N.Nodup)(he:WDE X e te)(hb:WDSs X body tb)(hi:X.N[i]?=some x:=by rfl)(hx:Loc X.env.scope x:=by first|exact Or.inl rfl|exact Or.inr rfl)
  (hf:zFN X x:=by first|exact .inl rfl|exact .inr rfl|assumption) (hs:∀ y,zFS X e y:=by exact λ_=>rfl):WDS X (.For (.Name x p) e body [] pos) (dFor i (dItL te) tb):=⟨have he:=he.out;have hb:=hb.out;(cO hp hc (jt he) (fk hN hi hx hf) hb hs).anti λE s H q=>by
 obtain⟨B,F0,F,z,kp,rs,ED,h,e⟩:=q
 refine⟨B,F,z,kp.kf,rs,_,h,λd v F1 H1 g1 hd rd=>?_⟩
 split at hd
 ·obtain⟨p,vs,rfl,hq,rr⟩:=rep_lst.mp rd
  obtain⟨W,w0,c5,out⟩:=hd
  refine⟨p,rfl,⟨vs,g1.fh.seq (SqL.of hq)⟩,pp (K:=X.K) (a:=p) (xs:=vs) (λk s' H'=>∃ F' z',Kept B F0 F' H'/\Same F1 F'/\RepS X.K B F' H' z' s'/\W k z') ⟨F1,z,kp.grow g1,Same.refl F1,rs.grow g1,w0⟩ (λk s' H' _ ⟨F',z',k',g',r',w'⟩=>k'.fh.seq (g'.seq (SqL.of hq))) ?_ ?_⟩
  ·rintro k y s' H' hk ⟨F',z',k',g',r',w'⟩
   obtain⟨d,hd,ry⟩:=rr.get' hk
   -- p7 IW part at a IY start is JS p7 J9 LN on
   refine⟨B,F',F',_,⟨k'.bh,k'.fh,Same.refl F',λb h1 _=>h1,k'.eb,k'.jf.trans k'.f0,λb h1 h2=>k'.out b (k'.jo b h1 h2) h2⟩,r'.set (ry.mono g'),_,c5 k d z' hd w',?_⟩
   have up:∀ {F2 H2:Hp},Kept B F' F2 H2->Kept B F0 F2 H2:=λk2=>⟨k2.bh,k2.fh,k'.f0.trans k2.f0,λb h1 h2=>k2.out b (k'.out b h1 h2) h2,k'.eb,k'.jf,k'.jo⟩
   exact⟨λz3 s3 F3 H3 k3 h3 r3=>⟨F3,z3,up k3,g'.trans k3.f0,r3,h3⟩,λd v F3 H3 k3=>e.rt d v F3 H3 (up k3),λz3 s3 F3 H3 k3=>e.nx z3 s3 F3 H3 (up k3),λz3 s3 F3 H3 k3 h3 r3=>⟨F3,z3,up k3,g'.trans k3.f0,r3,h3⟩⟩
  ·rintro s' H' ⟨F',z',k',g',r',w'⟩
   exact e.nx z' s' F' H' k' (out z' (by rw[<- rr.length];exact w')) r'
 ·obtain⟨p,vs,rfl,hq,rr⟩:=rep_rol.mp rd
  obtain⟨W,w0,c5,out⟩:=hd
  refine⟨p,rfl,⟨vs,g1.fh.seq hq⟩,pp (K:=X.K) (a:=p) (xs:=vs) (λk s' H'=>∃ F' z',Kept B F0 F' H'/\Same F1 F'/\RepS X.K B F' H' z' s'/\W k z') ⟨F1,z,kp.grow g1,Same.refl F1,rs.grow g1,w0⟩ (λk s' H' _ ⟨F',z',k',g',r',w'⟩=>k'.fh.seq (g'.seq hq)) ?_ ?_⟩
  ·rintro k y s' H' hk ⟨F',z',k',g',r',w'⟩
   obtain⟨d,hd,ry⟩:=rr.get' hk
   -- p7 IW part at a IY start is JS p7 J9 LN on
   refine⟨B,F',F',_,⟨k'.bh,k'.fh,Same.refl F',λb h1 _=>h1,k'.eb,k'.jf.trans k'.f0,λb h1 h2=>k'.out b (k'.jo b h1 h2) h2⟩,r'.set (ry.mono g'),_,c5 k d z' hd w',?_⟩
   have up:∀ {F2 H2:Hp},Kept B F' F2 H2->Kept B F0 F2 H2:=λk2=>⟨k2.bh,k2.fh,k'.f0.trans k2.f0,λb h1 h2=>k2.out b (k'.out b h1 h2) h2,k'.eb,k'.jf,k'.jo⟩
   exact⟨λz3 s3 F3 H3 k3 h3 r3=>⟨F3,z3,up k3,g'.trans k3.f0,r3,h3⟩,λd v F3 H3 k3=>e.rt d v F3 H3 (up k3),λz3 s3 F3 H3 k3=>e.nx z3 s3 F3 H3 (up k3),λz3 s3 F3 H3 k3 h3 r3=>⟨F3,z3,up k3,g'.trans k3.f0,r3,h3⟩⟩
  ·rintro s' H' ⟨F',z',k',g',r',w'⟩
   exact e.nx z' s' F' H' k' (out z' (by rw[<- rr.length];exact w')) r'
 ·exact hd.elim⟩
theorem cg[Jx](i:Nat){x:Str}{p p1 p2:Pos}{body:List Stmt}{tb:TSD}(hp:PassesOwn (model X.prog X.w) X.A X.env X.xe)(hc:X.calm=true)(hN:X.N.Nodup)(hm:X.mg "range"=none)(he:WDE X e te)(hb:WDSs X body tb)(hg:Gl X "range":=by rfl)(hi:X.N[i]?=some x:=by rfl)(hx:Loc X.env.scope x:=by first|exact Or.inl rfl|exact Or.inr rfl)
  (hf:zFN X x:=by first|exact .inl rfl|exact .inr rfl|assumption) (hs:∀ y,zFS X (.Call (.Name "range" p1) [e] [] p2) y:=by exact λ_=>rfl) (j_:zSE X e []:=by rfl) (d_:starEach [e] X.env=[(false,eval e X.env)]:=by rfl):WDS X (.For (.Name x p) (.Call (.Name "range" p1) [e] [] p2) body [] pos) (dFor i (dItR te) tb):=⟨have he:=he.out;have hb:=hb.out;(cO hp hc (fV hg hm (bj he pa_nil j_) d_) (fk hN hi hx hf) hb hs).anti λE s H q=>by
 obtain⟨B,F0,F,z,kp,rs,ED,h,e⟩:=q
 refine⟨B,F,z,kp.kf,rs,_,h,λd v F1 H1 g1 hd rd=>?_⟩
 split at hd
 ·rename_i n
  obtain⟨⟨b1,b2⟩,W,w0,c5,out⟩:=hd
  have hl:((ET n.toNat).map λk=>D.int ((k:Nat):Int)).length=n.toNat:=by simp
  refine⟨n,by rw[rep_int.mp rd],by lia,b2,ju (lo:=0) (n:=n.toNat) (λk s' H'=>∃ F' z',Kept B F0 F' H'/\RepS X.K B F' H' z' s'/\W k z') ⟨F1,z,kp.grow g1,rs.grow g1,w0⟩ ?_ ?_⟩
  ·rintro k s' H' hk ⟨F',z',k',r',w'⟩
   have e1:(0:Int)+(k:Int)=(k:Int):=by lia
   exact⟨B,F0,F',_,k',r'.set (d:= .int (k:Int)) (rep_int.mpr (by rw[e1])),_,c5 k (.int (k:Int)) z' (by simp[hk]) w',⟨λz3 s3 F3 H3 k3 h3 r3=>⟨F3,z3,k3,r3,h3⟩,e.rt,e.nx,λz3 s3 F3 H3 k3 h3 r3=>⟨F3,z3,k3,r3,h3⟩⟩⟩
  ·rintro s' H' ⟨F',z',k',r',w'⟩
   exact e.nx z' s' F' H' k' (out z' (by rw[hl];exact w')) r'
 ·exact hd.elim⟩
end
section
variable {P:Program}{w:World}{K:Ex}{mg:Str->Option Value}{base:Heap}
theorem _root_.L2.Fun.okD{x:Str}{st:Stmt}{f:Addr}{fd:FuncData}{N ps:List Str}{k:Nat}{S:SpD}(T:Fun K x x st f fd)(F:FnScope N ps (ag st))(len:∀ ds R,S ds R->ds.length=ps.length)
  (a_:∀ (cdv:Value) (A:Around) (outer:List Env) (s:Shared) (H:Hp) (E:XK) (J:Jx),Room k (A.deeper (envOfC x (ag st) s.heap.objs.size f cdv))->
   ∃ t,DSs (cxOf (Exc.CX1 P w) P w K mg base N x (ag st) f cdv A outer s H E).nox (aH st) t/\∀ ds R,S ds R->t {nx:=λ_=>R .non,rt:=R} (startD N ds)):FnOk P w K mg base (Exc.CX1 P w) (k+1) f fd ps (lSp K S):=by
 refine Fun.okC T F (λvs H Q E h=>?_) (λcdv A outer s H vs Q E hr h=>?_)
 ·obtain⟨F,ds,fh,rs,R,h,_⟩:=h
  rw[rs.length];exact len ds R h
 ·obtain⟨F,ds,fh,rs,R,h,q⟩:=h
  letI:Jx:=⟨H,F,λ_ _ _=>False⟩
  obtain⟨t,ht,hq⟩:=a_ cdv A outer s H E inferInstance hr
  refine⟨_,ht.nox,H,F,F,startD N ds,⟨Same.refl H,fh,Same.refl F,λ_ h _=>h,rfl,Same.refl F,λ_ h _=>h⟩,dY rs,_,hq ds R h,⟨λz' s' F' H' k hn _=>q _ _ F' H' ⟨k.f0,k.fh,k.bh,k.out⟩ hn (rep_non.mpr rfl),λd v F' H' k hd rd=>q d v F' H' ⟨k.f0,k.fh,k.bh,k.out⟩ hd rd,λ_ _ _ _ _ h _=>h.elim,λ_ _ _ _ _ h _=>h.elim⟩⟩
theorem Tx.okD{x:Str}{st:Stmt}{N ps:List Str}{k:Nat}{S:SpD}(T:Tx K mg x st ps)(F:FnScope N ps (ag st))(len:∀ ds R,S ds R->ds.length=ps.length)
  (a_:∀ (f:Addr) (cdv:Value) (A:Around) (outer:List Env) (s:Shared) (H:Hp) (E:XK) (J:Jx),Room k (A.deeper (envOfC x (ag st) s.heap.objs.size f cdv))->
   ∃ t,DSs (cxOf (Exc.CX1 P w) P w K mg base N x (ag st) f cdv A outer s H E).nox (aH st) t/\∀ ds R,S ds R->t {nx:=λ_=>R .non,rt:=R} (startD N ds)):CalD P w K mg base (k+1) x ps S:=by
 obtain⟨f,fd,T,hb,hm⟩:=T
 exact⟨f,fd,T.okD F len λcdv A outer s H E J hr=>a_ f cdv A outer s H E J hr,hb,T.kp,hm⟩
end
def eB:SpD:=λds R=>∃ ns:List Int,ds=[.rol (ns.map D.int)]/\ns.length<=63/\R (.bl true)
theorem xX{K:Ex}{H:Hp}{a:Addr}{ns:List Int}(hl:ns.length<=63)(hS:SqL K H a (ns.map V.int)){E:XK}:lSp K eB [.ref a] H (λv _=>v= .bl true) E:=
 ⟨H,[.rol (ns.map D.int)],Same.refl H,reps_cons.mpr ⟨_,_,rfl,rep_rol.mpr ⟨a,_,rfl,hS,Reps.ints.mpr rfl⟩,reps_nil.mpr rfl⟩,λd=>d= .bl true,⟨ns,rfl,hl,rfl⟩,λd v F' H' _ hd rd=>by subst hd;exact rep_bl.mp rd⟩
section
variable {X:Cx}{a b c e:Expr}{ta tb tc te:TD}{pos:Pos}
theorem gx[Jx]{x:Str}{p:Pos}{es:List Expr}{t:TDA}{T:String}{r:List V->Hp->VK->Prop}{rd:RDn}(hc:bw X (.type T) r)(L:bO X.K r rd)(hm:X.mg x=none)(hv:bootBuiltins x=some (.type T))(ha:DA X (e::es) t)(hg:Gl X x:=by rfl)(hn:x≠"__name__":=by decide)(d7:zND x:=by decide)
  (he:zSE X e es:=by rfl) (b_:zPL X pos es:=by rfl):DE X (.Call (.Name x p) (e::es) [] pos) (dCB rd t):=(pQ hc hg hm hv ha hn d7 he b_).anti λs H Q h=>by
 obtain⟨B,F,z,kf,rs,R,h1,h2⟩:=h
 have fh:=kf.fh
 refine⟨B,F,z,kf,rs,_,h1,λds vs F1 H1 g1 hx rx=>?_⟩
 exact L ds vs F1 H1 R Q g1.fh hx rx λd w F' H' g=>h2 d w F' H' (g1.trans g)
def rdStr:RDn:=λds R=>match ds with|[.int i]=>i.natAbs<18446744073709551616/\R (.str (toString i))|_=>False
theorem xY{K:Ex}:bO K (λxs H Q=>∃ i,xs=[.int i]/\i.natAbs.log2<1920/\Q (.str (toString i)) H) rdStr:=by
 intro ds vs F H R Q fh h rx q
 unfold rdStr at h
 split at h
 ·obtain⟨v,r,rfl,h1,h2⟩:=reps_cons.mp rx
  rw[reps_nil.mp h2,rep_int.mp h1]
  refine⟨_,rfl,?_,q _ _ F H (Grow.refl fh) h.2 (rep_str.mpr rfl)⟩
  rename_i i
  by_cases h0:i.natAbs=0
  ·rw[h0];decide
  ·have:=(Nat.log2_lt h0).mpr (show i.natAbs<2 ^ 64 from h.1)
   lia
 ·exact h.elim
theorem cS[Jx]{p:Pos}{t:TDA}(hm:X.mg "str"=none)(ha:WDA X [e] t)(hg:Gl X "str":=by rfl)(he:zSE X e []:=by rfl):WDE X (.Call (.Name "str" p) [e] [] pos) (dCB rdStr t):=⟨have ha:=ha.out;gx vU xY hm PyProof.Rows.boot_str ha hg (by decide) (by decide) he⟩
def rdInt:RDn:=λds R=>match ds with
 |[.int i]=>R (.int i)
 |[.bl k]=>R (.int (if k then 1 else 0))
 |[.str x]=>∃ n,(PySem.intText? x=some n/\x.length<=640)/\R (.int n)
 |_=>False
theorem qK:bw X (.type "int") (λxs H Q=>((∃ i,xs=[.int i]/\Q (.int i) H)\/∃ k,xs=[.bl k]/\Q (.int (if k then 1 else 0)) H)\/∃ x n,xs=[.str x]/\PySem.intText? x=some n/\x.length<=640/\Q (.int n) H):=by
 intro pins s σ H xs us Q I r h
 rcases h with h|⟨x,n,rfl,h1,h2,q⟩
 ·exact vT pins s σ H xs us Q I r h
 ·obtain⟨u,rfl,t,rfl⟩:=bD r
  exact PySem.W.KIN.call_text h1 h2 ⟨.int n,H,I.tok _,⟨_,rfl⟩,q⟩
theorem qL{K:Ex}:bO K (λxs H Q=>((∃ i,xs=[.int i]/\Q (.int i) H)\/∃ k,xs=[.bl k]/\Q (.int (if k then 1 else 0)) H)\/∃ x n,xs=[.str x]/\PySem.intText? x=some n/\x.length<=640/\Q (.int n) H) rdInt:=by
 intro ds vs F H R Q fh h rx q
 unfold rdInt at h
 split at h
 ·obtain⟨v,r,rfl,h1,h2⟩:=reps_cons.mp rx
  rw[reps_nil.mp h2,rep_int.mp h1]
  exact .inl (.inl ⟨_,rfl,q _ _ F H (Grow.refl fh) h (rep_int.mpr rfl)⟩)
 ·obtain⟨v,r,rfl,h1,h2⟩:=reps_cons.mp rx
  rw[reps_nil.mp h2,rep_bl.mp h1]
  exact .inl (.inr ⟨_,rfl,q _ _ F H (Grow.refl fh) h (rep_int.mpr rfl)⟩)
 ·obtain⟨v,r,rfl,h1,h2⟩:=reps_cons.mp rx
  rw[reps_nil.mp h2,rep_str.mp h1]
  obtain⟨n,⟨e1,e2⟩,h⟩:=h
  exact .inr ⟨_,n,rfl,e1,e2,q _ _ F H (Grow.refl fh) h (rep_int.mpr rfl)⟩
 ·exact h.elim
theorem fE[Jx]{p:Pos}{t:TDA}(hm:X.mg "int"=none)(ha:WDA X [e] t)(hg:Gl X "int":=by rfl)(he:zSE X e []:=by rfl):WDE X (.Call (.Name "int" p) [e] [] pos) (dCB rdInt t):=⟨have ha:=ha.out;gx qK qL hm PyProof.Rows.boot_int ha hg (by decide) (by decide) he⟩
def rdList:RDn:=λds R=>match ds with|[.lst xs]=>R (.lst xs)|[.tup xs]=>R (.lst xs)|[.rol xs]=>R (.lst xs)|_=>False
theorem xZ{K:Ex}:bO K (λxs H Q=>∃ p ys,xs=[.ref p]/\(SqL K H p ys\/SqT K H p ys)/\∀ l,H l=none->Q (.ref l) (upd H l (.lst ys))) rdList:=by
 intro ds vs F H R Q fh h rx q
 unfold rdList at h
 split at h
 ·obtain⟨v,r,rfl,h1,h2⟩:=reps_cons.mp rx
  rw[reps_nil.mp h2]
  obtain⟨a,us,rfl,hq,rs⟩:=rep_lst.mp h1
  exact⟨a,us,rfl,.inl (fh.seq (SqL.of hq)),λl hl=>q _ _ _ _ (Grow.new fh hl _) h (rep_lst.mpr ⟨l,us,rfl,az,rs.mono (aQ (fh.free hl) _)⟩)⟩
 ·obtain⟨v,r,rfl,h1,h2⟩:=reps_cons.mp rx
  rw[reps_nil.mp h2]
  obtain⟨a,us,rfl,hq,rs⟩:=rep_tup_mp h1
  exact⟨a,us,rfl,.inr (fh.tup hq),λl hl=>q _ _ _ _ (Grow.new fh hl _) h (rep_lst.mpr ⟨l,us,rfl,az,rs.mono (aQ (fh.free hl) _)⟩)⟩
 ·obtain⟨v,r,rfl,h1,h2⟩:=reps_cons.mp rx
  rw[reps_nil.mp h2]
  obtain⟨a,us,rfl,hq,rs⟩:=rep_rol.mp h1
  exact⟨a,us,rfl,.inl (fh.seq hq),λl hl=>q _ _ _ _ (Grow.new fh hl _) h (rep_lst.mpr ⟨l,us,rfl,az,rs.mono (aQ (fh.free hl) _)⟩)⟩
 ·exact h.elim
theorem ya[Jx]{p:Pos}{t:TDA}(hm:X.mg "list"=none)(ha:WDA X [e] t)(hg:Gl X "list":=by rfl)(he:zSE X e []:=by rfl):WDE X (.Call (.Name "list" p) [e] [] pos) (dCB rdList t):=⟨have ha:=ha.out;gx wK xZ hm PyProof.Rows.boot_list ha hg (by decide) (by decide) he⟩
def rdMax:RDn:=λds R=>match ds with|[.int i,.int j]=>R (.int (if j>i then j else i))|_=>False
def rdMin:RDn:=λds R=>match ds with|[.int i,.int j]=>R (.int (if j<i then j else i))|_=>False
theorem yb{K:Ex}:bO K (λxs H Q=>∃ i j,xs=[.int i,.int j]/\Q (.int (if j>i then j else i)) H) rdMax:=by
 intro ds vs F H R Q fh h rx q
 unfold rdMax at h
 split at h
 ·obtain⟨v,r,rfl,h1,h2⟩:=reps_cons.mp rx
  obtain⟨v',r',rfl,h3,h4⟩:=reps_cons.mp h2
  rw[reps_nil.mp h4,rep_int.mp h1,rep_int.mp h3]
  exact⟨_,_,rfl,q _ _ F H (Grow.refl fh) h (rep_int.mpr rfl)⟩
 ·exact h.elim
theorem yc{K:Ex}:bO K (λxs H Q=>∃ i j,xs=[.int i,.int j]/\Q (.int (if j<i then j else i)) H) rdMin:=by
 intro ds vs F H R Q fh h rx q
 unfold rdMin at h
 split at h
 ·obtain⟨v,r,rfl,h1,h2⟩:=reps_cons.mp rx
  obtain⟨v',r',rfl,h3,h4⟩:=reps_cons.mp h2
  rw[reps_nil.mp h4,rep_int.mp h1,rep_int.mp h3]
  exact⟨_,_,rfl,q _ _ F H (Grow.refl fh) h (rep_int.mpr rfl)⟩
 ·exact h.elim
theorem gy[Jx]{p:Pos}{t:TDA}(hc:X.calm=true)(hm:X.mg "max"=none)(ha:WDA X [e,a] t)(hg:Gl X "max":=by rfl)(he:zSE X e [a]:=by rfl)(b_:zPL X pos [a]:=by rfl):WDE X (.Call (.Name "max" p) [e,a] [] pos) (dCB rdMax t):=⟨have ha:=ha.out;fw (vR hc) yb hm PyProof.Rows.boot_max ha hg (by decide) (by decide) he b_⟩
theorem yd[Jx]{p:Pos}{t:TDA}(hc:X.calm=true)(hm:X.mg "min"=none)(ha:WDA X [e,a] t)(hg:Gl X "min":=by rfl)(he:zSE X e [a]:=by rfl)(b_:zPL X pos [a]:=by rfl):WDE X (.Call (.Name "min" p) [e,a] [] pos) (dCB rdMin t):=⟨have ha:=ha.out;fw (vS hc) yc hm PyProof.Rows.boot_min ha hg (by decide) (by decide) he b_⟩
def cT:List D->Option (List Str)
 |[]=>some []
 | .str x::r=>(cT r).map (x::·)
 |_=>none
theorem qM{K:Ex}{F:Hp}:∀ {ds:List D} {xs:List Str} {vs:List V} {us:List Value},cT ds=some xs->Reps K F ds vs->Vals vs us->StrsAre us xs
 |[],xs,vs,us,e,r,q=>by
  cases e
  rw[reps_nil.mp r] at q
  cases q
  exact .nil
 | .str x::ds,xs,vs,us,e,r,q=>by
  obtain⟨v,r',rfl,h1,h2⟩:=reps_cons.mp r
  rw[rep_str.mp h1] at q
  cases q with
  |cons q1 q2=>
   obtain⟨t,rfl⟩:=q1
   cases e2:cT ds with
   |none=>simp[cT,e2] at e
   |some ys=>
    simp[cT,e2] at e
    subst e
    exact .cons x t (qM e2 h2 q2)
def ye:V->List V->Hp->VK->Prop:=λx vs H Q=>∃ p9 l xs ys,x= .str p9/\vs=[.ref l]/\H l=some (.lst xs)/\(∀ us,Vals xs us->StrsAre us ys)/\(ys.map (·.length)).sum+ys.length*p9.length<=16777216/\Q (.str (Txt.join p9 ys)) H
theorem yf:MtR X "str.join" ye:=by
 intro pins s σ H x vs v us Q I rx rv h
 obtain⟨p9,l,xs,ys,rfl,rfl,hl,hs,hz,q⟩:=h
 obtain⟨t,rfl⟩:=rx
 obtain⟨u,rfl,ru⟩:=bD rv
 cases ru
 obtain⟨its,r,pl,_⟩:=I.list (SqL.of hl)
 exact PyProof.Rows.join_list pl.isList (by simpa using hs its r) hz λt' k=>⟨.str _,H,I.tok _,⟨_,rfl⟩,q⟩
def yg(p9:Str)(te:TD):TD:=λz R=>te z λx=>match x with
 | .lst ds=>∃ ys,cT ds=some ys/\(ys.map (·.length)).sum+ys.length*p9.length<=1000000/\R (.str (Txt.join p9 ys))
 |_=>False
theorem qN[Jx]{p9:Str}{k:Nat}{p1 apos cpos:Pos}(he:WDE X e te)(n5:zSE X e []:=by rfl)
  (b9:attributeBase (.Constant (.str p9) k p1) "join" X.env (eval (.Constant (.str p9) k p1) X.env)=eval (.Constant (.str p9) k p1) X.env:=by rfl)
  (d9:zHF X cpos [e]:=by rfl)
  (c7:(apos.endLine==cpos.line)=true:=by rfl):WDE X (.Call (.Attribute (.Constant (.str p9) k p1) "join" apos) [e] [] cpos) (yg p9 te):=⟨have he:=he.out;(dX PySem.F.plainAttrs_str PySem.F.slot_str_join PySem.F.type_str_join yf oR (bj he pa_nil n5) b9 d9 c7 n5).anti λs H Q q=>by
 obtain⟨B,F,z,kf,rs,R,h1,h2⟩:=q
 have fh:=kf.fh
 refine⟨rfl,?_⟩
 refine⟨B,F,z,kf,rs,_,h1,λx u F1 H1 g1 hx rx=>?_⟩
 split at hx
 ·obtain⟨ys,e1,e2,hx⟩:=hx
  obtain⟨l,vs,rfl,hq,rr⟩:=rep_lst.mp rx
  exact⟨p9,l,vs,ys,rfl,rfl,g1.fh _ _ hq,λus q=>qM e1 rr q,E4 e2 (by decide),h2 _ _ F1 H1 g1 hx (rep_str.mpr rfl)⟩
 ·exact hx.elim⟩
def dOix(i:Nat)(tb:TD):TD:=λz R=>match z[i]? with
 |some (some (.own ds))=>tb z λy=>match y with| .int k=>∃ d,atI ds k=some d/\R d|_=>False
 |_=>False
theorem yi[Jx](i:Nat){x:Str}{p:Pos}(hb:WDE X b tb)(hN:X.N[i]?=some x:=by rfl)(hv:Vis X.env.scope x:=by first|exact Or.inl rfl|exact Or.inr (Or.inl rfl)|exact Or.inr (Or.inr rfl))(hd:zND x:=by decide)
  (ge:zNC x:=by decide) (hs:dW b:=by exact λ_ _=>rfl):WDE X (.Subscript (.Name x p) b pos) (dOix i tb):=⟨have hb:=hb.out;(pe_ix ix_list (du hN hv hd ge) hb hs).anti λs H Q q=>by
 obtain⟨B,F,z,kf,rs,R,h1,h2⟩:=q
 have fh:=kf.fh
 unfold dOix at h1
 split at h1
 ·rename_i ds ez
  obtain⟨a,vs,q1,q2,q3,q4,q5⟩:=rs.own i ds ez
  refine⟨.ref a,q1,B,F,z,kf,rs,_,h1,λy v F1 H1 g1 hy ry=>?_⟩
  split at hy
  ·obtain⟨d,e1,hR⟩:=hy
   obtain⟨w,e2,g8⟩:=(q5.mono g1.ff).at e1
   exact⟨a,vs,_,w,rfl,rep_int.mp ry,SqL.of (g1.hh _ _ q2),e2,h2 d w F1 H1 g1 hR g8⟩
  ·exact hy.elim
 ·exact h1.elim⟩
def cutD(xs:List D)(lo hi:Option Int):List D:=(xs.drop (HT.sIx xs.length 0 lo)).take (HT.sIx xs.length xs.length hi - HT.sIx xs.length 0 lo)
theorem Reps.drop{K:Ex}{F:Hp}:∀ (n:Nat) {xs:List D} {us:List V},Reps K F xs us->Reps K F (xs.drop n) (us.drop n)
 |0,_,_,r=>r
 |n+1,[],us,r=>by rw[reps_nil.mp r];exact reps_nil.mpr rfl
 |n+1,x::xs,us,r=>by
  obtain⟨u,ur,rfl,_,a2⟩:=reps_cons.mp r
  exact Reps.drop n a2
theorem Reps.take{K:Ex}{F:Hp}:∀ (n:Nat) {xs:List D} {us:List V},Reps K F xs us->Reps K F (xs.take n) (us.take n)
 |0,_,_,_=>reps_nil.mpr rfl
 |n+1,[],us,r=>by rw[reps_nil.mp r];exact reps_nil.mpr rfl
 |n+1,x::xs,us,r=>by
  obtain⟨u,ur,rfl,a1,a2⟩:=reps_cons.mp r
  exact reps_cons.mpr ⟨u,_,rfl,a1,Reps.take n a2⟩
theorem Reps.cut{K:Ex}{F:Hp}{xs:List D}{us:List V}(r:Reps K F xs us)(lo hi:Option Int):Reps K F (cutD xs lo hi) (cutV us lo hi):=by
 unfold cutD cutV
 rw[r.length]
 exact(r.drop _).take _
def yj(ta tb:TD):TD:=λz R=>ta z λx=>tb z λy=>match x,y with| .lst xs,.int i=>R (.lst (cutD xs (some i) none))|_,_=>False
theorem yk[Jx]{p2:Pos}(ha:WDE X a ta)(hb:WDE X b tb):WDE X (.Subscript a (.Slice (some b) none none p2) pos) (yj ta tb):=⟨have ha:=ha.out;have hb:=hb.out;(pV qa ha (pU hb) pT).anti λs H Q q=>by
 obtain⟨B,F,z,kf,rs,R,h1,h2⟩:=q
 have fh:=kf.fh
 refine⟨B,F,z,kf,rs,_,h1,λx u F1 H1 g1 hx rx=>?_⟩
 refine⟨B,F1,z,kf.grow g1,rs.grow g1,_,hx,λy v F2 H2 g2 hy ry=>?_⟩
 split at hy
 ·refine⟨_,rep_int.mp ry,?_⟩
  obtain⟨l,vs,rfl,hq,rr⟩:=rep_lst.mp (rx.mono g2.ff)
  refine⟨l,vs,rfl,SqL.of (g2.fh _ _ hq),λp hp=>?_⟩
  exact h2 _ _ _ _ (g1.trans (g2.trans (Grow.new g2.fh hp _))) hy (rep_lst.mpr ⟨p,_,rfl,az,(rr.cut _ _).mono (aQ (g2.fh.free hp) _)⟩)
 ·exact hy.elim⟩
theorem yl{es:List Expr}{k:Nat}{t:TGs}{n:Nat}(hc:X.calm=true)(h:PGs X es t)(hn:(assignEach es X.env).length=n:=by rfl)(k_:(assignEach es X.env).findIdx? (·.1)=none:=by rfl):
  PG X (.Tuple es k pos) (λv σ H Q=>∃ a xs,v= .ref a/\SqL X.K H a xs/\xs.length=n/\t xs σ H Q):=by
 intro pins s σ H v u Q I r hw
 obtain⟨a,xs,e1,hq,hl,hw⟩:=hw
 subst e1
 cases r
 obtain⟨its,rv,pl,hz⟩:=I.list hq
 have e2:(assignEach es X.env).length=its.toArray.size:=by simp[hn,<- hl,rv.length]
 rw[PyProof.Rows.assign_Tuple]
 refine wpAny_bind (wpAny_standAt ?_)
 unfold unpack
 rw[e2,k_]
 refine wpAny_bind (wpAny_holding (kun_itemsOf (I.ok.hd hc) pl.isList λh' hx=>?_))
 have I1:Inv X pins σ H {s with heap:=h'}:=I.kept (t':=s.toks) λb o e=>hx b o (E3 (Heap.lt_size e)) e
 exact h pins _ σ H xs _ Q I1 (by simpa using rv) hw
def ym(is:List Nat)(te:TD):TSD:=λE z=>te z λx=>match x with| .lst ds=>ds.length=is.length/\E.nx (aS is ds z)|_=>False
theorem yn[Jx]{es:List Expr}{k:Nat}{is:List Nat}{p:Pos}(hc:X.calm=true)(he:WDE X e te)(hg:DGs X es is)(hn:(assignEach es X.env).length=is.length:=by rfl)(k_:(assignEach es X.env).findIdx? (·.1)=none:=by rfl)
  (hs:swapsWithSole [.Tuple es k p] e pos.line X.env=pure false:=by rfl) (hw:swappedStores [.Tuple es k p] e X.env=pure none:=by rfl) (h1:(assignEach [.Tuple es k p] X.env).map (·.2)=[assign (.Tuple es k p) X.env]:=by rfl):WDS X (.Assign [.Tuple es k p] e pos) (ym is te):=⟨by
 have he:=he.out
 obtain⟨u,hu,kk⟩:=hg
 refine(jq he (yl hc hu hn k_) hs hw h1).anti λE s H q=>?_
 obtain⟨B,F0,F,z,k,rs,ED,h,e⟩:=q
 refine⟨B,F,z,k.kf,rs,_,h,λd v F' H' g hd rd=>?_⟩
 split at hd
 ·obtain⟨p,vs,rfl,hq,rr⟩:=rep_lst.mp rd
  exact⟨p,vs,rfl,SqL.of (g.fh _ _ hq),by rw[rr.length];exact hd.1,kk _ vs z s B F' H' _ hd.1 rr (rs.grow g) λs' r'=>e.nx _ _ F' H' (k.grow g) hd.2 r'⟩
 ·exact hd.elim⟩
end
end My
namespace L2
theorem jK{env:Env}:∀ (names:List (Str × NameKind)) (td:List (Str × Addr)),(∀ n,(n,NameKind.free)∈names->∃ c,env.cells.lookup n=some c)->
  ∃ cl,(forIn (m:=Sem) names td λx r=>match x with
     |(name,kind)=>if(kind==NameKind.free)=true then(do let a <- cellOf env name;pure (ForInStep.yield ((name,a)::r))) else pure (ForInStep.yield r))=(pure cl:Sem (List (Str × Addr)))/\
   (∀ n c,cl.lookup n=some c->env.cells.lookup n=some c\/td.lookup n=some c)/\(∀ n,(n,NameKind.free)∈names->∃ c,cl.lookup n=some c)/\∀ n c,td.lookup n=some c->∃ c',cl.lookup n=some c'
 |[],td,_=>⟨td,rfl,(λ_ _ h=> .inr h),(λ_ h=>by cases h),(λ_ c h=>⟨c,h⟩)⟩
 |(name,kind)::r,td,h=>by
  by_cases hk:(kind==NameKind.free)=true
  ·have ek:kind= .free:=by simpa using hk
   subst ek
   obtain⟨c,hc⟩:=h name EY
   obtain⟨cl,e,p1,p2,p3⟩:=jK r ((name,c)::td) λn q=>h n (EV _ q)
   refine⟨cl,?_,λn c' q=>?_,λn q=>?_,λn c' q=>?_⟩
   ·rw[G0]
    have ec:cellOf env name=pure c:=by unfold cellOf;rw[hc]
    simp only[hk,if_true,ec]
    exact e
   ·rcases p1 n c' q with z|z
    ·exact .inl z
    ·rw[Fd] at z
     split at z
     ·rename_i q2
      have en:n=name:=by simpa using q2
      cases z
      exact .inl (en ▸ hc)
     ·exact .inr z
   ·rcases EU.mp q with z|z
    ·cases z
     exact p3 _ c (by rw[Fd];simp)
    ·exact p2 n z
   ·by_cases hn:n=name
    ·subst hn;exact p3 n c (by rw[Fd];simp)
    ·exact p3 n c' (by rw[Fd,beq_eq_false_iff_ne.mpr hn];exact q)
  ·obtain⟨cl,e,p1,p2,p3⟩:=jK r td λn q=>h n (EV _ q)
   refine⟨cl,?_,p1,λn q=>?_,p3⟩
   ·rw[G0]
    simp only[hk]
    exact e
   ·rcases EU.mp q with z|z
    ·cases z;exact absurd rfl hk
    ·exact p2 n z
theorem closure_is{env:Env}{scope:Scope}(h:∀ n,(n,NameKind.free)∈scope.names->∃ c,env.cells.lookup n=some c):
  ∃ cl,closureFor scope env=pure cl/\(∀ n c,cl.lookup n=some c->env.cells.lookup n=some c)/\∀ n,(n,NameKind.free)∈scope.names->∃ c,cl.lookup n=some c:=by
 obtain⟨cl,e,p1,p2,_⟩:=jK scope.names [] h
 refine⟨cl,?_,λn c q=>(p1 n c q).elim id (λz=>nomatch z),p2⟩
 unfold closureFor
 show(forIn (m:=Sem) scope.names [] _>>=λs=>pure s)=pure cl
 rw[e]
 rfl
theorem gz{env:Env}:∀ {names:List (Str × NameKind)} {n:Str} {k:NameKind},(∀ y∈names,y.2≠.cell)->k= .cell\/k= .free->
  (names.map λ(n,k)=>if(k==NameKind.free && env.scope.kind== .function && env.kindOf n==some .cell) then(n,NameKind.cell) else(n,k)).lookup n=some k->(n,NameKind.free)∈names
 |[],_,_,_,_,h=>by simp at h
 |(a,b)::r,n,k,hc,hk,h=>by
  rw[E9] at h
  by_cases hb:(b==NameKind.free && env.scope.kind== .function && env.kindOf a==some .cell)=true
  ·have eb:b= .free:=by
    have:=(FC _ _ ▸ ((FC _ _ ▸ hb).1)).1
    simpa using this
   simp only[hb,if_true] at h
   rw[Fd] at h
   split at h
   ·rename_i q
    have en:n=a:=by simpa using q
    subst en eb
    exact EY
   ·exact EV _ (gz (λy q=>hc y (EV _ q)) hk h)
  ·simp only[hb] at h
   rw[if_neg (by simp),Fd] at h
   split at h
   ·rename_i q
    have en:n=a:=by simpa using q
    cases h
    subst en
    rcases hk with z|z
    ·exact absurd z (hc _ EY)
    ·rw[z];exact EY
   ·exact EV _ (gz (λy q=>hc y (EV _ q)) hk h)
section
variable {prog:Program}{w:World}{A:Around}{R:Result->Shared->Prop}{s:Shared}
abbrev qO(i8:List Expr)(env:Env):Sem Bool:=forIn i8 true λc r=>if r=true then do let ok <- isTrue c env (eval c env);pure (ForInStep.yield ok) else pure (ForInStep.yield r)
theorem qP{e_ f_ iter:Expr}{i8:List Expr}{scope:Scope}{pos:Pos}{it td:Value}{env:Env}(I:Nat->Shared->Prop)
  (c5:∀ n s,I n s->wpAny (model prog w) A (pyNext it) (λr s₁=>match r with
   |none=>R (.ok .next) s₁
   |some v=>wpAny (model prog w) A (letOwnedTupleGo f_ it v) (λ_ s₁'=>wpAny (model prog w) A (assign f_ env v) (λ_ s₂=>wpAny (model prog w) A (qO i8 env) (λok s₂'=>if ok=true then wpAny (model prog w) A (eval e_ env) (λx s₃=>
     wpAny (model prog w) A (call (.builtin "list.append") [td,x]) (λ_ s₄=>∃ m,m<n/\I m s₄) (λ_ _=>False) s₃)
     (λ_ _=>False) s₂' else ∃ m,m<n/\I m s₂') (λ_ _=>False) s₂) (λ_ _=>False) s₁') (λ_ _=>False) s₁) (λ_ _=>False) s)
  (n:Nat) (h:I n s):
  codeAny (model prog w) A (.compLoop (.ListComp e_ [⟨f_,iter,i8,0⟩] scope pos) 0 it td env) R s:=by
 refine codeAny_loop rfl I (λn s hI=>?_) n h
 show wpAny _ _ ((compTurn (.ListComp e_ [⟨f_,iter,i8,0⟩] scope pos) 0 it td env).onRaise (λx=>do noteFrame x env;theTreesLotGoes x)) _ _ s
 refine wpAny_noted ?_
 rw[compTurn_list]
 refine wpAny_bind (wpAny_standAt (wpAny_bind (wpAny_mono (c5 n s hI) (λr s₁ h₁=>?_) λ_ _ h'=>h'.elim)))
 cases r with
 |none=>exact wpAny_pure h₁
 |some v=>
  refine wpAny_bind (wpAny_mono h₁ (λ_ s₁' h₁'=>wpAny_bind (wpAny_mono h₁' (λ_ s₂ h₂=>wpAny_bind (wpAny_mono h₂ (λok s₃ h₃=>?_) λ_ _ h'=>h'.elim)) λ_ _ h'=>h'.elim)) λ_ _ h'=>h'.elim)
  cases ok with
  |false=>exact wpAny_pure ⟨rfl,h₃⟩
  |true=>
   exact wpAny_bind (wpAny_bind (wpAny_mono h₃ (λx s₄ h₄=>wpAny_bind (wpAny_mono h₄ (λ_ s₅ h₅=>wpAny_pure (wpAny_pure ⟨rfl,h₅⟩)) λ_ _ h'=>h'.elim)) λ_ _ h'=>h'.elim))
end
def bA(X:Cx)(scope:Scope)(cl:List (Str × Addr))(x:Str)(s₀:Shared)(H₀:Hp)(fp:List Addr):Cx where
 prog:=X.prog
 w:=X.w
 K:=X.K
 mg:=X.mg
 base:=X.base
 A:=X.A
 N:=X.N.map (λn=>if n=x then("":Str) else n)++[x]
 s₀:=s₀
 H₀:=H₀
 env:=compEnvC scope cl s₀.heap.objs.size X.env
 outer:=X.stack
 stack:=X.stack
 ex:=fp
 fn:=λ_=>false
 calm:=X.calm
 pn:=[]
 xe:=λ_ _=>False
structure CompScope(X:Cx)(scope:Scope)(x:Str):Prop where
 kind:scope.kind= .function
 nocell:∀ y∈scope.names,y.2≠.cell
 names:∀ y∈scope.names,y.2= .local->scope.names.lookup y.1=some .local
 own:scope.names.lookup x=some .local
 free:∀ n,(n,NameKind.free)∈scope.names->X.env.kindOf n=some .cell
 vis:∀ n∈X.N,n≠x->Vis (relabel scope X.env) n->(n,NameKind.free)∈scope.names
 empty:¬ Vis (relabel scope X.env) ("":Str)
 cells:∀ n,(n,NameKind.free)∈scope.names->(relabel scope X.env).names.lookup n=some .cell
 nd:(X.N.map (λn=>if n=x then("":Str) else n)++[x]).Nodup
section
variable {X:Cx}{pins:List (Addr × Obj)}{σ:St}{H:Hp}{s:Shared}{scope:Scope}{cl:List (Str × Addr)}{x:Str}{fp:List Addr}
theorem jL(I:Inv X pins σ H s)(S:CompScope X scope x)(c1:∀ n c,cl.lookup n=some c->X.env.cells.lookup n=some c)(c2:∀ n,(n,NameKind.free)∈scope.names->∃ c,cl.lookup n=some c)
  (hf:∀ b∈fp,FpOk X pins H b) (hl:∀ b∈fp,b<s.heap.objs.size):(bA X scope cl x s H fp).Ok where
 mod:=I.ok.mod
 kind:=S.kind
 glob:=I.ok.glob
 blt:=I.ok.blt
 above:=ER _
 inj:=λy z c h1 h2=>I.ok.inj y z c (c1 y c h1) (c1 z c h2)
 has:=λn hn=>by
  rcases hn with hn|hn
  ·exact c2 n (gz S.nocell (.inl rfl) hn)
  ·exact c2 n (gz S.nocell (.inr rfl) hn)
 cab:=λ_ _ h=>nomatch h
 hd:=I.ok.hd
 frames:=I.ok.frames
 stk:= .inl rfl
 exf:=λb hb=>⟨E3 (hl b hb),λy c h=>(hf b hb).2.2.2.2.1 y c (c1 y c h)⟩
 bs:=I.bs
 bsz:=E4 I.ok.bsz I.sz
 noex:=λb o e hb=>by
  have h1:=I.ok.noex b o e
  rcases(hf b hb).2.2.2.1 with z|z
  ·exact h1 z
  ·exact absurd (Fo (Heap.lt_size e) (E4 I.ok.bsz z)) (FR _)
 exfs:=λb hb hs=>by
  rcases EU.mp (I.stkSub b hs) with z|z
  ·exact(hf b hb).2.1 z
  ·exact(hf b hb).2.2.1 z
 funs:=I.stack
 frf:=I.stkFree
theorem qQ{h':Heap}{t':Nat}(I:Inv X pins σ H s)(S:CompScope X scope x)(c1:∀ n c,cl.lookup n=some c->X.env.cells.lookup n=some c)(c2:∀ n,(n,NameKind.free)∈scope.names->∃ c,cl.lookup n=some c)
  (hf:∀ b∈fp,FpOk X pins H b) (hl:∀ b∈fp,b<s.heap.objs.size) {m:Str->Option Value} (hn:h'.Ns s.heap.objs.size m) (k:∀ b o,s.heap.get? b=some o->h'.get? b=some o):
  Inv (bA X scope cl x s H fp) [] (σ++[none]) H {s with heap:=h',toks:=t'}:=by
 refine⟨jL I S c1 c2 hf hl,rfl,I.bare,Un.kept k,⟨m,hn,λi n v e1 e2 e3=>?_⟩,λn c e=>?_,I.hok.fresh (ER _),λn c e=>I.freeC n c (c1 n c e),λp hp=>absurd (show p∈([]:List (Addr × Obj)) from hp) (by simp),I.hok.kept k,?_⟩
 ·have hi:i<σ.length:=by
   rcases Gb i σ.length with q|q
   ·exact q
   ·rw[FW q] at e2
    cases hz:i - σ.length with
    |zero=>rw[hz] at e2;simp at e2
    |succ z=>rw[hz] at e2;simp at e2
  rw[FH hi] at e2
  have K3:i<X.N.length:=by rw[<- I.len];exact hi
  have Jr:(X.N.map (λn=>if n=x then("":Str) else n)++[x])[i]?=some n:=e1
  rw[FH (by simpa using K3),E8,Fj K3] at Jr
  simp only[Option.map_some,Option.some.injEq] at Jr
  by_cases hx:X.N[i]=x
  ·rw[if_pos hx] at Jr
   subst Jr
   exact absurd e3 S.empty
  ·rw[if_neg hx] at Jr
   subst Jr
   have j6:=S.vis _ (FD K3) hx e3
   have k9:=S.free _ j6
   obtain⟨c,hc⟩:=c2 _ j6
   obtain⟨mX,P',O0⟩:=I.loc
   obtain⟨u,ru,lk⟩:=O0 i X.N[i] v (Fj K3) e2 (.inr (.inl k9))
   refine⟨u,ru,.inr ⟨?_,c,hc,?_⟩⟩
   ·exact .inl (S.cells _ j6)
   ·rcases lk with⟨kl,_⟩|⟨_,c',Ix,j8⟩
    ·rw[k9] at kl;cases kl
    ·have:c=c':=by
      have:=c1 _ c hc
      rw[Ix] at this
      exact(Option.some.inj this).symm
     subst this
     obtain⟨o,ho,hd⟩:=j8
     exact⟨o,k _ _ ho,hd⟩
 ·obtain⟨v,o,ho,hd⟩:=I.cell n c (c1 n c e)
  exact⟨v,o,k _ _ ho,hd⟩
 ·show(σ++[none]).length=(X.N.map _++[x]).length
  rw[E2,E2,E1,I.len]
  rfl
end
def fF(wi:TI)(tt:TT)(i_:TE):TE:=λσ H Q=>wi σ H λJ H1=>∀ D,H1 D=none->∃ W:Nat->Nat->Hp->Prop,(∃ m,W 0 m (upd H1 D (.lst [])))/\∀ i m H,W i m H->
 (J.stop i H/\Q (.ref D) H)\/(J.go i H/\∀ x H',J.yld i H x H'->tt (σ++[some x]) H' λb H1=>if b=true then i_ (σ++[some x]) H1 λy H''=>∃ vs,H'' D=some (.lst vs)/\vs.length<sizeLine/\∃ m',m'<m/\W (i+1) m' (upd H'' D (.lst (vs++[y]))) else ∃ m',m'<m/\W (i+1) m' H1)
def PIf(X:Cx)(i8:List Expr)(t:TT):Prop:=
 ∀ (pins:List (Addr × Obj)) (s:Shared) (σ:St) (H:Hp) (Q:Bool->Hp->Prop),Inv X pins σ H s->t σ H Q->wpAny (model X.prog X.w) X.A (qO i8 X.env) (TP X pins σ Q) X.xe s
theorem pif_nil{X:Cx}:PIf X [] (λ_ H Q=>Q true H):=λpins s σ H Q I q=>wpAny_tests_nil ⟨H,I,q⟩
theorem yo{X:Cx}{c:Expr}{t:TT}(h:PT X c t):PIf X [c] t:=λpins s σ H Q I q=>wpAny_tests_one (h pins s σ H Q I q)
theorem PIf.anti{X:Cx}{e:List Expr}{t t':TT}(h:PIf X e t)(a:∀ s H Q,t' s H Q->t s H Q):PIf X e t':=λpins s σ H Q I q=>h pins s σ H Q I (a _ _ _ q)
section
variable {X:Cx}
theorem yp{P:Program}{w:World}{H:Hp}{h h':Heap}{a:Addr}(x:HOk P w H h)(hn:H a=none)(hs:Heap.SameBut a h h'):HOk P w H h':=λb ob e=>by
 refine(x b ob e).stay (λc w' hc q=>(hs.2 c ?_).trans q) (λ_ q=>q) λ_ _ q=>q
 rintro rfl
 rcases hc with rfl|hc
 ·rw[hn] at e;cases e
 ·rw[hn] at hc;cases hc
theorem pe_comp{e_ iter:Expr}{i8:List Expr}{x:Str}{px:Pos}{scope:Scope}{pos:Pos}{wi:TI}{tt:TT}{i_:TE}(hc:X.calm=true)(S:CompScope X scope x)(hi:PI X (.Name x px) iter wi)
  (hq:∀ cl s₀ H₀ fp,PIf (bA X scope cl x s₀ H₀ fp) i8 tt) (he:∀ cl s₀ H₀ fp,PE (bA X scope cl x s₀ H₀ fp) e_ i_) (hs:∀ y,zFS X iter y:=by exact λ_=>rfl):
  PE X (.ListComp e_ [⟨.Name x px,iter,i8,0⟩] scope pos) (fF wi tt i_):=by
 intro pins s σ H Q I h
 obtain⟨cl,j8,c1,c2⟩:=closure_is (env:=X.env) (scope:=scope) (λn q=>I.ok.has n (.inl (S.free n q)))
 rw[eval_ListComp]
 refine wpAny_comprehension_free (use:=none) rfl hs j8 S.kind S.names (thn (hi pins s σ H _ I h) λv s1 h1=>thn h1 λKU s2 h2=>?_)
 obtain⟨it,fp,tn,J,H1,e,I1,T,st,f1,hr⟩:=h2
 subst e
 have gV:∀ b∈fp,b<s2.heap.objs.size:=λb hb=>by
  obtain⟨o,ho,_⟩:=T.obj _ _ st b hb
  exact Heap.lt_size ho
 have hD:H1 s2.heap.objs.size=none:=I1.hok.fresh (ER _)
 obtain⟨W,⟨m0,w0⟩,step⟩:=hr _ hD
 refine wpAny_newObj_type (wpAny_newFunctionEnv S.nocell (by intro y hy;simp at hy) (λh₁ hns₁ hsb₁=>?_) S.kind)
 have I3:Inv X pins σ (upd H1 s2.heap.objs.size (.lst [])) {s2 with heap:=s2.heap.push {cls:= .type "list",data:= .seq ([]:List Value).toArray},toks:=s2.toks}:=I1.lnew (its:=[]) (ys:=[]) .nil (Fp _)
 have g6:∀ b∈fp,b<(s2.heap.push {cls:= .type "list",data:= .seq ([]:List Value).toArray}).objs.size:=λb hb=>by
  rw[Heap.size_push];exact Hz (gV b hb)
 have n6:∀ b∈fp,FpOk X pins (upd H1 s2.heap.objs.size (.lst [])) b:=λb hb=>⟨by rw[ao (E3 (gV b hb))];exact(f1 b hb).1,(f1 b hb).2⟩
 have kp:∀ b o,(s2.heap.push {cls:= .type "list",data:= .seq ([]:List Value).toArray}).get? b=some o->h₁.get? b=some o:=λb o e=>
  (hsb₁.2 b (E3 (Heap.lt_size e))).trans (Heap.get?_push_of_some _ e)
 have I4:=qQ (x:=x) (fp:=fp) (t':=s2.toks+([]:List (Str × Value)).length) I3 S c1 c2 n6 g6 hns₁ kp
 have B_:=jL (x:=x) (fp:=fp) I3 S c1 c2 n6 g6
 generalize hY:bA X scope cl x {s2 with heap:=s2.heap.push {cls:= .type "list",data:= .seq ([]:List Value).toArray},toks:=s2.toks} (upd H1 s2.heap.objs.size (.lst [])) fp=Y at I4 B_
 have yP:Y.prog=X.prog:=by rw[<- hY];rfl
 have yW:Y.w=X.w:=by rw[<- hY];rfl
 have yK:Y.K=X.K:=by rw[<- hY];rfl
 have yA:Y.A=X.A:=by rw[<- hY];rfl
 have yN:Y.N=X.N.map (λn=>if n=x then("":Str) else n)++[x]:=by rw[<- hY];rfl
 have yE:Y.env=compEnvC scope cl (s2.heap.push {cls:= .type "list",data:= .seq ([]:List Value).toArray}).objs.size X.env:=by rw[<- hY];rfl
 have yX:Y.xe=λ_ _=>False:=by rw[<- hY];rfl
 have yC:Y.calm=true:=by rw[<- hY];exact hc
 have J':Y.ex=fp:=by rw[<- hY];rfl
 have LO:Y.pn=[]:=by rw[<- hY];rfl
 have LP:Y.fs=frs X.stack:=by rw[<- hY];rfl
 have LQ:Y.H₀=upd H1 s2.heap.objs.size (.lst []):=by rw[<- hY];rfl
 have J_:Y.s₀={s2 with heap:=s2.heap.push {cls:= .type "list",data:= .seq ([]:List Value).toArray},toks:=s2.toks}:=by rw[<- hY];rfl
 have LR:PE Y e_ i_:=by rw[<- hY];exact he _ _ _ _
 have LS:PIf Y i8 tt:=by rw[<- hY];exact hq _ _ _ _
 have g9:∀ {H':Hp},(∀ b∈fp,H' b=none)->∀ b∈fp,FpOk Y [] H' b:=λ{H'} hn b hb=>by
  have gt:b∈Y.ex:=by rw[J'];exact hb
  exact⟨hn b hb,(B_.exf b gt).1,B_.exfs b gt,.inl gt,λn c e=>(B_.exf b gt).2 n c e,by rw[LO];simp⟩
 have v4:Y.env.scope.names.lookup x=some .local:=by rw[yE];exact lookup_relabel_local S.own
 have Ka:Y.N[X.N.length]?=some x:=by rw[yN];simp
 have LU:Y.N.Nodup:=by rw[yN];exact S.nd
 -- p7 end of p7 Kb
 have d5:∀ (o:Option V) (H':Hp) (s':Shared),Inv Y [] (σ++[o]) H' s'->Q (.ref s2.heap.objs.size) H'->∀ h',Heap.SameBut Y.env.locals s'.heap h'->EP X pins σ Q (.ref s2.heap.objs.size) {s' with heap:=h'}:=λo H' s' I' q h' hsb=>by
  have q9:Y.env.locals=(s2.heap.push {cls:= .type "list",data:= .seq ([]:List Value).toArray}).objs.size:=by rw[yE];rfl
  have ne:∀ b ob,(s2.heap.push {cls:= .type "list",data:= .seq ([]:List Value).toArray}).get? b=some ob->b≠Y.env.locals:=λb ob e=>by rw[q9];exact E3 (Heap.lt_size e)
  have bs:=I'.base
  rw[LP,J',LQ,J_] at bs
  refine⟨.ref s2.heap.objs.size,H',I3.call' (ch:=fp) ?_ ⟨λb ob e n h1 h2=>?_,λb ob e n h1 h2=>?_,bs.free,λb ob e h2=>?_,bs.tups,bs.frzs,bs.tbls⟩ ?_ I'.bare ?_,rfl,q⟩
  ·have:=I'.os
   rw[J_] at this
   exact this
  ·exact(hsb.2 b (ne b ob e)).trans (bs.keep b ob e n h1 h2)
  ·obtain⟨sl,q⟩:=bs.slot b ob e n h1 h2
   exact⟨sl,(hsb.2 b (ne b ob e)).trans q⟩
  ·obtain⟨o',q⟩:=bs.there b ob e h2
   exact⟨o',(hsb.2 b (ne b ob e)).trans q⟩
  ·have:=yp I'.hok I'.free hsb
   rw[yP,yW] at this
   exact this
  ·exact λb hb=>⟨(n6 b hb).2.2.2.1,(n6 b hb).2.1,(n6 b hb).2.2.2.2.1,(n6 b hb).2.2.2.2.2⟩
 have p_:codeAny (model X.prog X.w) X.A (.compLoop (.ListComp e_ [⟨.Name x px,iter,i8,0⟩] scope pos) 0 (.ref it) (.ref s2.heap.objs.size) (compEnvC scope cl (s2.heap.push {cls:= .type "list",data:= .seq ([]:List Value).toArray}).objs.size X.env))
   (compPost (model X.prog X.w) X.A X.xe none (EP X pins σ Q) (.ref s2.heap.objs.size) (s2.heap.push {cls:= .type "list",data:= .seq ([]:List Value).toArray}).objs.size)
   {s2 with heap:=h₁,toks:=s2.toks+([]:List (Str × Value)).length}:=by
  refine qP (λn s'=>∃ i o H',Inv Y [] (σ++[o]) H' s'/\tn i s'.heap/\(∀ b∈fp,H' b=none)/\W i n H') ?_ m0 ⟨0,none,_,I4,T.keep _ _ _ st (λb hb ob e=>kp b ob (Heap.get?_push_of_some _ e)),λb hb=>(n6 b hb).1,w0⟩
  rintro n s3 ⟨i,o,H3,I5,t3,f3,w3⟩
  rcases step i n H3 w3 with⟨stop,q⟩|⟨go,q⟩
  ·have dn:=T.done Y yP yW yK yC i [] s3 _ H3 (λ_ _=>False) I5 (g9 f3) t3 stop
   rw[yA] at dn
   refine thn dn λr s4 ⟨hr,I6⟩=>?_
   subst hr
   obtain⟨m,hn,_⟩:=I6.loc
   have q9:Y.env.locals=(s2.heap.push {cls:= .type "list",data:= .seq ([]:List Value).toArray}).objs.size:=by rw[yE];rfl
   rw[q9] at hn
   exact⟨m,hn,λh' hsb=>d5 o H3 s4 I6 q h' (by rw[q9];exact hsb)⟩
  ·have Kc:=T.item Y yP yW yK yC i [] s3 _ H3 (λ_ _=>False) I5 (g9 f3) t3 go
   rw[yA] at Kc
   refine thn Kc λr s4 ⟨u,hr,h4⟩=>?_
   subst hr
   refine thn h4 λ_ s5 ⟨xv,H5,I6,r5,y5,m8,JT⟩=>?_
   have LV:=I6.pinned (g9 JT) (T.obj _ _ m8)
   rw[<- yE]
   refine wpAny_assign_Name (dU LV LU Ka (.inl v4) r5 (λs6 I7=>?_) (.inr v4))
   have IZ:(σ++[o]).set X.N.length (some xv)=σ++[some xv]:=by
    rw[<- I.len]
    simp
   rw[IZ] at I7
   have tv:=LS _ s6 _ H5 _ I7 (q xv H5 y5)
   rw[yP,yW,yA,yX] at tv
   refine thn tv λb LW ⟨LX,C_,qb⟩=>?_
   cases b with
   |false=>
    obtain⟨m',hm,w7⟩:=qb
    refine⟨m',hm,i+1,some xv,_,C_.unpinned,T.keep _ _ _ m8 λb hb ob e=>(C_.pin (b,ob) (E7 _ (E7 _ (cr hb e)))).1,λb hb=>?_,w7⟩
    obtain⟨ob,e,d⟩:=T.obj _ _ m8 b hb
    exact(C_.pin (b,ob) (E7 _ (E7 _ (cr hb e)))).2.1
   |true=>
   have ev:=LR _ LW _ LX _ C_ qb
   rw[yP,yW,yA,yX] at ev
   refine thn ev λyv s7 ⟨y,H6,I8,ry,vs,LY,b7,m',hm,w7⟩=>?_
   have ap:=gc (X:=Y) _ s7 _ H6 (.ref s2.heap.objs.size) [y] (.ref s2.heap.objs.size) [yv] (λ_ H7=>H7=upd H6 s2.heap.objs.size (.lst (vs++[y]))) I8 rfl (.cons ry .nil) ⟨_,vs,y,rfl,rfl,LY,b7,rfl⟩
   rw[yP,yW,yA,yX] at ap
   refine thn ap λ_ s8 ⟨_,H7,I9,_,e7⟩=>?_
   subst e7
   refine⟨m',hm,i+1,some xv,_,I9.unpinned,T.keep _ _ _ m8 λb hb ob e=>(I9.pin (b,ob) (E7 _ (E7 _ (cr hb e)))).1,λb hb=>?_,w7⟩
   obtain⟨ob,e,d⟩:=T.obj _ _ m8 b hb
   exact(I9.pin (b,ob) (E7 _ (E7 _ (cr hb e)))).2.1
 exact codeAny_compStart_list p_ (T.self _ _ _ _ _ (T.keep _ _ _ st (λb hb ob e=>kp b ob (Heap.get?_push_of_some _ e))) p_)
theorem jM{e_ iter:Expr}{i8:List Expr}{x y:Str}{px py h_:Pos}{scope:Scope}{pos:Pos}{wi:TI}{tt:TT}{i_:TE}{ix:Nat}(hc:X.calm=true)(S:CompScope X scope x)(hi:PI X (.Name x px) iter wi)
  (hq:∀ cl s₀ H₀ fp,PIf (bA X scope cl x s₀ H₀ fp) i8 tt) (he:∀ cl s₀ H₀ fp,PE (bA X scope cl x s₀ H₀ fp) e_ i_) (hN:X.N.Nodup) (I_:X.N[ix]?=some y) (hy:Loc X.env.scope y) (hf:zFN X y)
  (v3:swapsWith (.ListComp e_ [⟨.Name x px,iter,i8,0⟩] scope pos) (some (.Name y py)) h_.line X.env=pure true) (hs:∀ y,zFS X iter y:=by exact λ_=>rfl):
  PS X (.Assign [.Name y py] (.ListComp e_ [⟨.Name x px,iter,i8,0⟩] scope pos) h_) (tAsg (fF wi tt i_) (fj ix)):=by
 intro pins s σ H DE I h
 have h:wi σ H λJ H1=>∀ D,H1 D=none->∃ W:Nat->Nat->Hp->Prop,(∃ m,W 0 m (upd H1 D (.lst [])))/\∀ i m H,W i m H->
  (J.stop i H/\DE.nx (σ.set ix (some (.ref D))) H)\/(J.go i H/\∀ x H',J.yld i H x H'->tt (σ++[some x]) H' λb H1=>if b=true then i_ (σ++[some x]) H1 λy H''=>∃ vs,H'' D=some (.lst vs)/\vs.length<sizeLine/\∃ m',m'<m/\W (i+1) m' (upd H'' D (.lst (vs++[y]))) else ∃ m',m'<m/\W (i+1) m' H1):=h
 obtain⟨cl,j8,c1,c2⟩:=closure_is (env:=X.env) (scope:=scope) (λn q=>I.ok.has n (.inl (S.free n q)))
 rw[exec_Assign_Name_used _ _ _ _ v3]
 refine wpAny_bind (wpAny_standAt (wpAny_bind ?_))
 show wpAny _ X.A (do let _ <- comprehension (.ListComp e_ [⟨.Name x px,iter,i8,0⟩] scope pos) scope X.env _ (newList []) false (eval iter X.env) (some (assign (.Name y py) X.env))) _ _ s
 refine wpAny_bind (wpAny_mono (wpAny_comprehension_free (use:=some (assign (.Name y py) X.env)) (Q:=λ_ s'=>SP X pins DE .next s') rfl hs j8 S.kind S.names
  (thn (hi pins s σ H _ I h) λv s1 h1=>thn h1 λKU s2 h2=>?_)) (λ_ s' hq=>wpAny_pure (wpAny_pure hq)) λ_ _ e=>e)
 obtain⟨it,fp,tn,J,H1,e,I1,T,st,f1,hr⟩:=h2
 subst e
 have gV:∀ b∈fp,b<s2.heap.objs.size:=λb hb=>by
  obtain⟨o,ho,_⟩:=T.obj _ _ st b hb
  exact Heap.lt_size ho
 have hD:H1 s2.heap.objs.size=none:=I1.hok.fresh (ER _)
 obtain⟨W,⟨m0,w0⟩,step⟩:=hr _ hD
 refine wpAny_newObj_type (wpAny_newFunctionEnv S.nocell (by intro y hy;simp at hy) (λh₁ hns₁ hsb₁=>?_) S.kind)
 have I3:Inv X pins σ (upd H1 s2.heap.objs.size (.lst [])) {s2 with heap:=s2.heap.push {cls:= .type "list",data:= .seq ([]:List Value).toArray},toks:=s2.toks}:=I1.lnew (its:=[]) (ys:=[]) .nil (Fp _)
 have g6:∀ b∈fp,b<(s2.heap.push {cls:= .type "list",data:= .seq ([]:List Value).toArray}).objs.size:=λb hb=>by
  rw[Heap.size_push];exact Hz (gV b hb)
 have n6:∀ b∈fp,FpOk X pins (upd H1 s2.heap.objs.size (.lst [])) b:=λb hb=>⟨by rw[ao (E3 (gV b hb))];exact(f1 b hb).1,(f1 b hb).2⟩
 have kp:∀ b o,(s2.heap.push {cls:= .type "list",data:= .seq ([]:List Value).toArray}).get? b=some o->h₁.get? b=some o:=λb o e=>
  (hsb₁.2 b (E3 (Heap.lt_size e))).trans (Heap.get?_push_of_some _ e)
 have I4:=qQ (x:=x) (fp:=fp) (t':=s2.toks+([]:List (Str × Value)).length) I3 S c1 c2 n6 g6 hns₁ kp
 have B_:=jL (x:=x) (fp:=fp) I3 S c1 c2 n6 g6
 generalize hY:bA X scope cl x {s2 with heap:=s2.heap.push {cls:= .type "list",data:= .seq ([]:List Value).toArray},toks:=s2.toks} (upd H1 s2.heap.objs.size (.lst [])) fp=Y at I4 B_
 have yP:Y.prog=X.prog:=by rw[<- hY];rfl
 have yW:Y.w=X.w:=by rw[<- hY];rfl
 have yK:Y.K=X.K:=by rw[<- hY];rfl
 have yA:Y.A=X.A:=by rw[<- hY];rfl
 have yN:Y.N=X.N.map (λn=>if n=x then("":Str) else n)++[x]:=by rw[<- hY];rfl
 have yE:Y.env=compEnvC scope cl (s2.heap.push {cls:= .type "list",data:= .seq ([]:List Value).toArray}).objs.size X.env:=by rw[<- hY];rfl
 have yX:Y.xe=λ_ _=>False:=by rw[<- hY];rfl
 have yC:Y.calm=true:=by rw[<- hY];exact hc
 have J':Y.ex=fp:=by rw[<- hY];rfl
 have LO:Y.pn=[]:=by rw[<- hY];rfl
 have LP:Y.fs=frs X.stack:=by rw[<- hY];rfl
 have LQ:Y.H₀=upd H1 s2.heap.objs.size (.lst []):=by rw[<- hY];rfl
 have J_:Y.s₀={s2 with heap:=s2.heap.push {cls:= .type "list",data:= .seq ([]:List Value).toArray},toks:=s2.toks}:=by rw[<- hY];rfl
 have LR:PE Y e_ i_:=by rw[<- hY];exact he _ _ _ _
 have LS:PIf Y i8 tt:=by rw[<- hY];exact hq _ _ _ _
 have g9:∀ {H':Hp},(∀ b∈fp,H' b=none)->∀ b∈fp,FpOk Y [] H' b:=λ{H'} hn b hb=>by
  have gt:b∈Y.ex:=by rw[J'];exact hb
  exact⟨hn b hb,(B_.exf b gt).1,B_.exfs b gt,.inl gt,λn c e=>(B_.exf b gt).2 n c e,by rw[LO];simp⟩
 have v4:Y.env.scope.names.lookup x=some .local:=by rw[yE];exact lookup_relabel_local S.own
 have Ka:Y.N[X.N.length]?=some x:=by rw[yN];simp
 have LU:Y.N.Nodup:=by rw[yN];exact S.nd
 -- p7 end of p7 Kb
 have q9:Y.env.locals=(s2.heap.push {cls:= .type "list",data:= .seq ([]:List Value).toArray}).objs.size:=by rw[yE];rfl
 have d5:∀ (o:Option V) (H':Hp) (s':Shared),Inv Y [] (σ++[o]) H' s'->Inv X pins σ H' s':=λo H' s' I'=>by
  have bs:=I'.base
  rw[LP,J',LQ,J_] at bs
  refine I3.call' (ch:=fp) ?_ bs ?_ I'.bare ?_
  ·have:=I'.os
   rw[J_] at this
   exact this
  ·have:=I'.hok
   rw[yP,yW] at this
   exact this
  ·exact λb hb=>⟨(n6 b hb).2.2.2.1,(n6 b hb).2.1,(n6 b hb).2.2.2.2.1,(n6 b hb).2.2.2.2.2⟩
 have p_:codeAny (model X.prog X.w) X.A (.compLoop (.ListComp e_ [⟨.Name x px,iter,i8,0⟩] scope pos) 0 (.ref it) (.ref s2.heap.objs.size) (compEnvC scope cl (s2.heap.push {cls:= .type "list",data:= .seq ([]:List Value).toArray}).objs.size X.env))
   (compPost (model X.prog X.w) X.A X.xe (some (assign (.Name y py) X.env)) (λ_ s'=>SP X pins DE .next s') (.ref s2.heap.objs.size) (s2.heap.push {cls:= .type "list",data:= .seq ([]:List Value).toArray}).objs.size)
   {s2 with heap:=h₁,toks:=s2.toks+([]:List (Str × Value)).length}:=by
  refine qP (λn s'=>∃ i o H',Inv Y [] (σ++[o]) H' s'/\tn i s'.heap/\(∀ b∈fp,H' b=none)/\W i n H') ?_ m0 ⟨0,none,_,I4,T.keep _ _ _ st (λb hb ob e=>kp b ob (Heap.get?_push_of_some _ e)),λb hb=>(n6 b hb).1,w0⟩
  rintro n s3 ⟨i,o,H3,I5,t3,f3,w3⟩
  rcases step i n H3 w3 with⟨stop,q⟩|⟨go,q⟩
  ·have dn:=T.done Y yP yW yK yC i [] s3 _ H3 (λ_ _=>False) I5 (g9 f3) t3 stop
   rw[yA] at dn
   refine thn dn λr s4 ⟨hr,I6⟩=>?_
   subst hr
   obtain⟨m,hn,_⟩:=I6.loc
   have A':=I6.free
   rw[q9] at hn A'
   have IX:=d5 o H3 s4 I6
   show wpAny _ X.A (assign (.Name y py) X.env (.ref s2.heap.objs.size)) _ _ s4
   refine wpAny_assign_Name (oQ IX hN I_ hy (v:= .ref s2.heap.objs.size) rfl (λs5 I7 ⟨a,hsb,ha⟩=>?_) hf)
   have Kd:(s2.heap.push {cls:= .type "list",data:= .seq ([]:List Value).toArray}).objs.size≠X.env.locals:=FT I3.lt
   have Ke:∀ z c,X.env.cells.lookup z=some c->c≠(s2.heap.push {cls:= .type "list",data:= .seq ([]:List Value).toArray}).objs.size:=λz c e=>by
    obtain⟨vv,oo,ho,_⟩:=I3.cell z c e
    exact E3 (Heap.lt_size ho)
   have LZ:(s2.heap.push {cls:= .type "list",data:= .seq ([]:List Value).toArray}).objs.size≠a:=by
    rcases ha with e|e
    ·rw[e];exact Kd
    ·exact λz=>Ke y a e z.symm
   refine⟨m,hn.sameBut hsb LZ,λh' Js=>⟨_,H3,I7.turned (t':=s5.toks) (it:=(s2.heap.push {cls:= .type "list",data:= .seq ([]:List Value).toArray}).objs.size) (λb ob hb e=>(Js.2 b hb).trans e) A' Kd (.inr I3.sz) Ke (λp hp=>?_),q⟩⟩
   exact E3 (Heap.lt_size (I3.pin p hp).1)
  ·have Kc:=T.item Y yP yW yK yC i [] s3 _ H3 (λ_ _=>False) I5 (g9 f3) t3 go
   rw[yA] at Kc
   refine thn Kc λr s4 ⟨u,hr,h4⟩=>?_
   subst hr
   refine thn h4 λ_ s5 ⟨xv,H5,I6,r5,y5,m8,JT⟩=>?_
   have LV:=I6.pinned (g9 JT) (T.obj _ _ m8)
   rw[<- yE]
   refine wpAny_assign_Name (dU LV LU Ka (.inl v4) r5 (λs6 I7=>?_) (.inr v4))
   have IZ:(σ++[o]).set X.N.length (some xv)=σ++[some xv]:=by
    rw[<- I.len]
    simp
   rw[IZ] at I7
   have tv:=LS _ s6 _ H5 _ I7 (q xv H5 y5)
   rw[yP,yW,yA,yX] at tv
   refine thn tv λb LW ⟨LX,C_,qb⟩=>?_
   cases b with
   |false=>
    obtain⟨m',hm,w7⟩:=qb
    refine⟨m',hm,i+1,some xv,_,C_.unpinned,T.keep _ _ _ m8 λb hb ob e=>(C_.pin (b,ob) (E7 _ (E7 _ (cr hb e)))).1,λb hb=>?_,w7⟩
    obtain⟨ob,e,d⟩:=T.obj _ _ m8 b hb
    exact(C_.pin (b,ob) (E7 _ (E7 _ (cr hb e)))).2.1
   |true=>
   have ev:=LR _ LW _ LX _ C_ qb
   rw[yP,yW,yA,yX] at ev
   refine thn ev λyv s7 ⟨y,H6,I8,ry,vs,LY,b7,m',hm,w7⟩=>?_
   have ap:=gc (X:=Y) _ s7 _ H6 (.ref s2.heap.objs.size) [y] (.ref s2.heap.objs.size) [yv] (λ_ H7=>H7=upd H6 s2.heap.objs.size (.lst (vs++[y]))) I8 rfl (.cons ry .nil) ⟨_,vs,y,rfl,rfl,LY,b7,rfl⟩
   rw[yP,yW,yA,yX] at ap
   refine thn ap λ_ s8 ⟨_,H7,I9,_,e7⟩=>?_
   subst e7
   refine⟨m',hm,i+1,some xv,_,I9.unpinned,T.keep _ _ _ m8 λb hb ob e=>(I9.pin (b,ob) (E7 _ (E7 _ (cr hb e)))).1,λb hb=>?_,w7⟩
   obtain⟨ob,e,d⟩:=T.obj _ _ m8 b hb
   exact(I9.pin (b,ob) (E7 _ (E7 _ (cr hb e)))).2.1
 exact codeAny_compStart_list p_ (T.self _ _ _ _ _ (T.keep _ _ _ st (λb hb ob e=>kp b ob (Heap.get?_push_of_some _ e))) p_)
end
end L2
namespace My
theorem RepS.snoc{K:Ex}{B F H:Hp}{z:SD}{s:L2.St}{d:D}{v:V}(h:RepS K B F H z s)(r:Rep K F d v):RepS K B F H (z++[some d]) (s++[some v]):=by
 have no:=r.noown
 have get:∀ {j:Nat} {x:D},(z++[some d])[j]?=some (some x)->(j<z.length/\z[j]?=some (some x))\/(j=z.length/\x=d):=λ{j x} e=>by
  rcases Gb j z.length with q|q
  ·rw[FH q] at e;exact .inl ⟨q,e⟩
  ·rw[FW q] at e
   cases hz:j - z.length with
   |zero=>rw[hz] at e;simp at e;exact .inr ⟨by lia,e.symm⟩
   |succ n=>rw[hz] at e;simp at e
 have lt:∀ {j:Nat},j<z.length->(s++[some v])[j]?=s[j]?:=λ{j} q=>FH (by rw[h.len];exact q)
 refine⟨by rw[E2,E2,h.len];rfl,λj x e nx=>?_,λj ds e=>?_,λj k dj dk a e1 e2 e3 e4=>?_⟩
 ·rcases get e with⟨q,e⟩|⟨q,rfl⟩
  ·rw[lt q];exact h.val j x e nx
  ·exact⟨v,by rw[q,FW (by rw[h.len];exact ER _),h.len];simp,r⟩
 ·rcases get e with⟨q,e⟩|⟨q,e⟩
  ·rw[lt q];exact h.own j ds e
  ·rw[<- e] at no;cases no
 ·rcases get e1 with⟨q,e1⟩|⟨q,e1⟩
  ·rcases get e2 with⟨q2,e2⟩|⟨q2,e2⟩
   ·rw[lt q] at e3;rw[lt q2] at e4;exact h.apart j k dj dk a e1 e2 e3 e4
   ·rw[<- e2] at no;cases no
  ·rw[<- e1] at no;cases no
def okB:Bool->Bool->Prop->Prop->Prop
 |_,true,A,_=>A
 |false,false,_,B=>B
 |true,false,_,_=>False
theorem okF{b:Bool}{A B:Prop}(h1:b=true->A)(h2:b=false->B):okB false b A B:=by
 cases b
 ·exact h2 rfl
 ·exact h1 rfl
def cmpG(nf:Bool)(tt:TDT)(te:TD)(z:SD)(R:D->Prop)(items:List D):Prop:=items.length<=100000/\∃ W:Nat->List D->Prop,W 0 []/\(∀ k x ys,items[k]?=some x->(nf=true->ys.length=k)->W k ys->tt (z++[some x]) λb=>okB nf b (te (z++[some x]) λy=>W (k+1) (ys++[y])) (W (k+1) ys))/\∀ ys,(nf=true->ys.length=items.length)->W items.length ys->R (.lst ys)
def cmpF(tt:TDT)(te:TD)(z:SD)(R:D->Prop)(items:List D):Prop:=items.length<=100000/\∃ W:Nat->List D->Prop,W 0 []/\(∀ k x ys,items[k]?=some x->W k ys->tt (z++[some x]) λb=>okB false b (te (z++[some x]) λy=>W (k+1) (ys++[y])) (W (k+1) ys))/\∀ ys,W items.length ys->R (.lst ys)
def cmpP(te:TD)(z:SD)(R:D->Prop)(items:List D):Prop:=items.length<=100000/\∃ W:Nat->List D->Prop,W 0 []/\(∀ k x ys,items[k]?=some x->ys.length=k->W k ys->te (z++[some x]) λy=>W (k+1) (ys++[y]))/\∀ ys,ys.length=items.length->W items.length ys->R (.lst ys)
def gA(ti:TDI)(te:TD):TD:=λz R=>ti z (cmpP te z R)
def qR(ti:TDI)(tt:TDT)(te:TD):TD:=λz R=>ti z (cmpF tt te z R)
def dT1:TDT:=λ_ R=>R true
abbrev DIf(X:Cx)[Jx](i8:List Expr)(t:TDT):Prop:=PIf X i8 (lT X.K t)
theorem gB{X:Cx}[Jx]:DIf X [] dT1:=pif_nil.anti λs H Q q=>by
 obtain⟨B,F,z,kf,rs,R,h1,h2⟩:=q
 exact h2 true F H (Grow.refl kf.fh) h1
theorem qS{X:Cx}[Jx]{c:Expr}{t:TDT}(h:DT X c t):DIf X [c] t:=yo h
structure ItIs(K:Ex)(J:It)(F1 H1:Hp)(items:List D):Prop where
 go:∀ k F' H',Grow F1 H1 F' H'->k<items.length->J.go k H'
 yld:∀ k F' H' x H'',Grow F1 H1 F' H'->k<items.length->J.yld k H' x H''->H''=H'/\∃ d,items[k]?=some d/\Rep K F' d x
 stop:∀ F' H',Grow F1 H1 F' H'->J.stop items.length H'
def ItOk[Jx](K:Ex)(wi:TI)(ti:TDI):Prop:=∀ {s:L2.St} {H B F:Hp} {z:SD} {P:List D->Prop} {Q:It->Hp->Prop},Kept B Jx.F0 F H->RepS K B F H z s->ti z P->(∀ items J F1 H1,Grow F H F1 H1->P items->ItIs K J F1 H1 items->Q J H1)->wi s H Q
section
variable {X:Cx}
theorem qT[Jx]{K:Ex}{B F H F1 H1:Hp}{z:SD}{s:L2.St}{Q:VK}{R:D->Prop}{nf:Bool}{tt:TDT}{te:TD}{J:It}{items:List D}(kf:Kept B Jx.F0 F H)(g1:Grow F H F1 H1)(rs:RepS K B F H z s)(h2:∀ D ys us F' H',H D=none->F' D=none->Grow F H F' H'->H' D=some (.lst us)->Reps K F' ys us->R (.lst ys)->Q (.ref D) H')
    (it:ItIs K J F1 H1 items) (hd:cmpG nf tt te z R items):
    ∀ D,H1 D=none->∃ W:Nat->Nat->Hp->Prop,(∃ m,W 0 m (upd H1 D (.lst [])))/\∀ i m H,W i m H->
      (J.stop i H/\Q (.ref D) H)\/(J.go i H/\∀ x H',J.yld i H x H'->lT K tt (s++[some x]) H' λb H1=>if b=true then lE K te (s++[some x]) H1 λy H''=>∃ vs,H'' D=some (.lst vs)/\vs.length<sizeLine/\∃ m',m'<m/\W (i+1) m' (upd H'' D (.lst (vs++[y]))) else ∃ m',m'<m/\W (i+1) m' H1):=by
  intro D hD
  obtain⟨hz,W,w0,c5,out⟩:=hd
  have O1:F1 D=none:=g1.fh.free hD
  have hH:H D=none:=g1.hh.free hD
  refine⟨λk m H'=>m=items.length - k/\k<=items.length/\∃ F' ys us,Grow F1 H1 F' H'/\H' D=some (.lst us)/\F' D=none/\Reps K F' ys us/\(ys.length<=k/\(nf=true->ys.length=k))/\W k ys,
    ⟨items.length,by simp,Fp _,F1,[],[],⟨Same.refl F1,g1.fh.trans (aQ hD _),aQ hD _,λb h _=>h⟩,az,O1,reps_nil.mpr rfl,⟨ER _,λ_=>rfl⟩,w0⟩,?_⟩
  rintro k m H' ⟨rfl,hk,F',ys,us,G,hu,hF,ry,hl,w⟩
  by_cases gV:k<items.length
  · refine .inr ⟨it.go k F' H' G gV,λx H'' hy=>?_⟩
    obtain⟨e,d,hd,rd⟩:=it.yld k F' H' x H'' G gV hy
    subst e
    refine⟨B,F',z++[some d],kf.grow (g1.trans G),(rs.grow (g1.trans G)).snoc rd,_,c5 k d ys hd hl.2 w,λb F3 H3 g3 hb=>?_⟩
    have L0:H3 D=some (.lst us):=g3.hh D _ hu
    have NO:F3 D=none:=g3.out D hF (by rw[hu];exact λq=>nomatch q)
    cases b with
    |false=>
      cases nf with
      |true=>exact hb.elim
      |false=>exact⟨items.length - (k+1),by lia,rfl,by lia,F3,ys,us,G.trans g3,L0,NO,ry.mono g3.ff,⟨by lia,λz=>nomatch z⟩,hb⟩
    |true=>
    refine⟨B,F3,z++[some d],(kf.grow (g1.trans G)).grow g3,((rs.grow (g1.trans G)).snoc rd).grow g3,_,(show te _ _ from by cases nf<;>exact hb),λy yv F2 H2 g2 hw rv=>?_⟩
    have O2:H2 D=some (.lst us):=g2.hh D _ L0
    have Ja:F2 D=none:=g2.out D NO (by rw[L0];exact λq=>nomatch q)
    have P_:us.length<=k:=by rw[ry.length];exact hl.1
    refine⟨us, O2, by   have:(100000:Nat)<sizeLine:=by decide
                        lia,items.length - (k+1),by lia,rfl,by lia,F2,ys++[y],us++[yv],?_,az,Ja,((ry.mono g3.ff).mono g2.ff).append (eA rv),⟨by simp;lia,λz=>by simp[hl.2 z]⟩,hw⟩
    have GG:=(G.trans g3).trans g2
    refine⟨GG.ff,λb o e=>?_,λb o e=>?_,GG.out⟩
    · have ne:b≠D:=λq=>by rw[q,Ja] at e;cases e
      rw[ao ne];exact GG.fh b o e
    · have ne:b≠D:=λq=>by rw[q,hD] at e;cases e
      rw[ao ne];exact GG.hh b o e
  · have ek:k=items.length:=by lia
    subst ek
    exact .inl ⟨it.stop F' H' G,h2 D ys us F' H' hH hF (g1.trans G) hu ry (out ys hl.2 w)⟩
theorem yq{F H F' H':Hp}{D:Addr}{us:List V}(GG:Grow F H F' H')(hu:H' D=some (.lst us))(hF:F' D=none)(hH:H D=none):Grow F H (upd F' D (.lst us)) H':=by
 refine⟨GG.ff.trans (aQ hF _),λb o e=>?_,GG.hh,λb h1 h3=>?_⟩
 ·by_cases hb:b=D
  ·subst hb;rw[az] at e;cases e;exact hu
  ·rw[ao hb] at e;exact GG.fh b o e
 ·have ne:b≠D:=λq=>h3 (q ▸ hH)
  rw[ao ne];exact GG.out b h1 h3
variable {e_ iter:Expr}{i8:List Expr}{x:Str}{px pos:Pos}{scope:Scope}{ti te:TD}{tt:TDT}{wi:TI}{D':TDI}
theorem gC[Jx]{K:Ex}{nf:Bool}{G:SD->(D->Prop)->List D->Prop}(hG:∀ z R items,G z R items->cmpG nf tt te z R items)(hI:ItOk K wi D'){s:L2.St}{H:Hp}{Q:VK}(q:lE K (λz R=>D' z (G z R)) s H Q):fF wi (lT K tt) (lE K te) s H Q:=by
 obtain⟨B,F,z,kf,rs,R,h1,h2⟩:=q
 exact hI kf rs h1 λitems J F1 H1 g1 hg it=>qT kf g1 rs (λD ys us F' H' hH hF GG hu ry hR=>h2 (.lst ys) (.ref D) _ H' (yq GG hu hF hH) hR (rep_lst.mpr ⟨D,us,rfl,az,ry.mono (aQ hF _)⟩)) it (hG _ _ _ hg)
theorem cmpP.g{z:SD}{R:D->Prop}{items:List D}(h:cmpP te z R items):cmpG true dT1 te z R items:=
 let ⟨hz,W,w0,c5,out⟩:=h
 ⟨hz,W,w0,λk x ys e l w=>c5 k x ys e (l rfl) w,λys l w=>out ys (l rfl) w⟩
theorem cmpF.g{z:SD}{R:D->Prop}{items:List D}(h:cmpF tt te z R items):cmpG false tt te z R items:=
 let ⟨hz,W,w0,c5,out⟩:=h
 ⟨hz,W,w0,λk x ys e _ w=>c5 k x ys e w,λys _ w=>out ys w⟩
theorem itL[Jx]{K:Ex}:ItOk K (pf K (lE K ti)) (dItL ti):=λ{s H B F z P Q} kf rs h1 h2=>by
 refine⟨B,F,z,kf,rs,_,h1,λd v F1 H1 g1 hd rd=>?_⟩
 have key:∀ (items:List D) (p:Addr) (vs:List V),SqL K F1 p vs->Reps K F1 items vs->P items->∃ a,V.ref p= .ref a/\(∃ xs,SqL K H1 a xs)/\Q (Itl K a) H1:=λitems p vs hq rr hd=>by
  refine⟨p,rfl,⟨vs,g1.fh.seq hq⟩,h2 items _ F1 H1 g1 hd ⟨λk F' H' G hk=>?_,λk F' H' x H'' G hk hy=>?_,λF' H' G=>?_⟩⟩
  ·have n8:k<vs.length:=by rw[rr.length];exact hk
   exact⟨vs,vs[k],G.hh.seq (g1.fh.seq hq),by simp[n8]⟩
  ·obtain⟨e,hy⟩:=hy
   obtain⟨d,e2,r2⟩:=rr.get' (hy vs (G.hh.seq (g1.fh.seq hq)))
   exact⟨e,d,e2,r2.mono G.ff⟩
  ·exact⟨vs,G.hh.seq (g1.fh.seq hq),by rw[rr.length];exact ER _⟩
 split at hd
 ·obtain⟨p,vs,rfl,hq,rr⟩:=rep_lst.mp rd
  exact key _ p vs (SqL.of hq) rr hd
 ·obtain⟨p,vs,rfl,hq,rr⟩:=rep_rol.mp rd
  exact key _ p vs hq rr hd
 ·exact hd.elim
theorem itR[Jx]{K:Ex}:ItOk K (pi (fY (lE K ti) tNil)) (dItR ti):=λ{s H B F z P Q} kf rs h1 h2=>by
 refine⟨B,F,z,kf,rs,_,h1,λd v F1 H1 g1 hd rd=>?_⟩
 split at hd
 ·rename_i n
  obtain⟨⟨b1,b2⟩,hd⟩:=hd
  have hl:((ET n.toNat).map λk=>D.int ((k:Nat):Int)).length=n.toNat:=by simp
  refine⟨n,by rw[rep_int.mp rd],by lia,b2,h2 _ _ F1 H1 g1 hd ⟨λk F' H' G hk=>by rw[hl] at hk;exact hk,λk F' H' x H'' G hk hy=>?_,λF' H' G=>by show n.toNat<=_;rw[hl];exact ER _⟩⟩
  rw[hl] at hk
  obtain⟨e,rfl⟩:=hy
  exact⟨e,.int (k:Int),by simp[hk],rep_int.mpr (by congr 1;lia)⟩
 ·exact hd.elim
theorem qU[Jx]{p1 p2:Pos}(hc:X.calm=true)(S:CompScope X scope x)(hm:X.mg "range"=none)(hi:WDE X iter ti)(he:∀ cl s₀ H₀ fp,WDE (bA X scope cl x s₀ H₀ fp) e_ te)(hg:Gl X "range":=by rfl)
  (hs:∀ y,zFS X (.Call (.Name "range" p1) [iter] [] p2) y:=by exact λ_=>rfl) (j_:zSE X iter []:=by rfl) (d_:starEach [iter] X.env=[(false,eval iter X.env)]:=by rfl):WDE X (.ListComp e_ [⟨.Name x px,.Call (.Name "range" p1) [iter] [] p2,[],0⟩] scope pos) (gA (dItR ti) te):=⟨have hi:=hi.out;have he:=λcl s₀ H₀ fp=>(he cl s₀ H₀ fp).out;(pe_comp hc S (fV hg hm (bj hi pa_nil j_) d_) (λ_ _ _ _=>gB) he hs).anti λs H Q q=>gC (λ_ _ _=>cmpP.g) itR q⟩
theorem qV[Jx]{K:Ex}{E:Ends}{s:L2.St}{H:Hp}{ix:Nat}(hI:ItOk K wi D')(q:lS K (dSet ix (gA D' te)) E s H):tAsg (fF wi (lT K dT1) (lE K te)) (fj ix) E s H:=by
 obtain⟨B,F0,F,z,k,rs,ED,⟨P,h,j⟩,e⟩:=q
 exact gC (λ_ _ _=>cmpP.g) hI ⟨B,F,z,k.kf,rs,P,h,λd v F' H' g hd rd=>e.nx _ _ F' H' (k.grow g) (j d hd) ((rs.grow g).set rd)⟩
theorem yr[Jx](ix:Nat){y:Str}{py h_:Pos}(hc:X.calm=true)(S:CompScope X scope x)(hN:X.N.Nodup)(hi:WDE X iter ti)(he:∀ cl s₀ H₀ fp,WDE (bA X scope cl x s₀ H₀ fp) e_ te)(I_:X.N[ix]?=some y:=by rfl)(hy:Loc X.env.scope y:=by first|exact Or.inl rfl|exact Or.inr rfl)
  (hf:zFN X y:=by first|exact .inl rfl|exact .inr rfl|assumption) (v3:swapsWith (.ListComp e_ [⟨.Name x px,iter,[],0⟩] scope pos) (some (.Name y py)) h_.line X.env=pure true:=by rfl) (hs:∀ y,zFS X iter y:=by exact λ_=>rfl):WDS X (.Assign [.Name y py] (.ListComp e_ [⟨.Name x px,iter,[],0⟩] scope pos) h_) (dSet ix (gA (dItL ti) te)):=⟨have hi:=hi.out;have he:=λcl s₀ H₀ fp=>(he cl s₀ H₀ fp).out;(jM hc S (jt hi) (λ_ _ _ _=>gB) he hN I_ hy hf v3 hs).anti λE s H q=>qV itL q⟩
theorem yt[Jx](ix:Nat){y:Str}{py h_ p1 p2:Pos}(hc:X.calm=true)(S:CompScope X scope x)(hN:X.N.Nodup)(hm:X.mg "range"=none)(hi:WDE X iter ti)(he:∀ cl s₀ H₀ fp,WDE (bA X scope cl x s₀ H₀ fp) e_ te)(hg:Gl X "range":=by rfl)(I_:X.N[ix]?=some y:=by rfl)(hy:Loc X.env.scope y:=by first|exact Or.inl rfl|exact Or.inr rfl)
  (hf:zFN X y:=by first|exact .inl rfl|exact .inr rfl|assumption) (v3:swapsWith (.ListComp e_ [⟨.Name x px,.Call (.Name "range" p1) [iter] [] p2,[],0⟩] scope pos) (some (.Name y py)) h_.line X.env=pure true:=by rfl)
  (hs:∀ y,zFS X (.Call (.Name "range" p1) [iter] [] p2) y:=by exact λ_=>rfl) (j_:zSE X iter []:=by rfl) (d_:starEach [iter] X.env=[(false,eval iter X.env)]:=by rfl):WDS X (.Assign [.Name y py] (.ListComp e_ [⟨.Name x px,.Call (.Name "range" p1) [iter] [] p2,[],0⟩] scope pos) h_) (dSet ix (gA (dItR ti) te)):=⟨have hi:=hi.out;have he:=λcl s₀ H₀ fp=>(he cl s₀ H₀ fp).out;(jM hc S (fV hg hm (bj hi pa_nil j_) d_) (λ_ _ _ _=>gB) he hN I_ hy hf v3 hs).anti λE s H q=>qV itR q⟩
end
def eE(scope fsc:Scope):List (Str × NameKind):=scope.names.map λ(n,k)=>if(k==NameKind.free && fsc.kind== .function && fsc.names.lookup n==some .cell) then(n,NameKind.cell) else(n,k)
def visB(l:List (Str × NameKind))(n:Str):Bool:=l.lookup n==some .local||l.lookup n==some .cell||l.lookup n==some .free
def cx(scope fsc:Scope)(N:List Str)(x:Str):Bool:=
 scope.kind== .function && scope.names.all (λy=>!(y.2== .cell)) && scope.names.all (λy=>!(y.2== .local)||scope.names.lookup y.1==some .local) && scope.names.lookup x==some .local &&
 scope.names.all (λy=>!(y.2== .free)||fsc.names.lookup y.1==some .cell) && N.all (λn=>decide (n=x)||!visB (eE scope fsc) n||scope.names.any (λy=>decide (y=(n,NameKind.free)))) && !visB (eE scope fsc) "" &&
 scope.names.all (λy=>!(y.2== .free)||(eE scope fsc).lookup y.1==some .cell) && decide (N.map (λn=>if n=x then("":Str) else n)++[x]).Nodup
theorem qW{l:List (Str × NameKind)}{n:Str}(h:l.lookup n=some .local\/l.lookup n=some .cell\/l.lookup n=some .free):visB l n=true:=by
 unfold visB
 rcases h with h|h|h<;>rw[h]<;>rfl
theorem compScope{X:Cx}{scope:Scope}{x:Str}(h:cx scope X.env.scope X.N x=true):CompScope X scope x:=by
 unfold cx at h
 simp only[FC] at h
 obtain⟨⟨⟨⟨⟨⟨⟨⟨h1,h2⟩,h3⟩,h4⟩,h5⟩,h6⟩,h7⟩,h8⟩,h9⟩:=h
 have er:(relabel scope X.env).names=eE scope X.env.scope:=rfl
 refine⟨by simpa using h1,λy hy=>?_,λy hy e=>?_,by simpa using h4,λn hn=>?_,λn hn ne v=>?_,λv=>?_,λn hn=>?_,of_decide_eq_true h9⟩
 ·have:=Gc.mp h2 y hy
  simpa using this
 ·have:=Gc.mp h3 y hy
  rw[e] at this
  simpa using this
 ·have:=Gc.mp h5 _ hn
  show X.env.scope.names.lookup n=some .cell
  simpa using this
 ·have:=Gc.mp h6 n hn
  have v':visB (eE scope X.env.scope) n=true:=qW v
  rw[v'] at this
  simp[ne] at this
  exact this
 ·have v':visB (eE scope X.env.scope) ""=true:=qW v
  rw[v'] at h7
  cases h7
 ·have:=Gc.mp h8 _ hn
  rw[er]
  simpa using this
def putD(f:Str)(v:D):List (Str × D)->List (Str × D)
 |[]=>[(f,v)]
 |(g,x)::r=>if g=f then(g,v)::r else(g,x)::putD f v r
theorem RepF.put{K:Ex}{F:Hp}{f:Str}{d:D}{v:V}(r:Rep K F d v):∀ {fs:List (Str × D)} {ws:List (Str × V)},RepF K F fs ws->RepF K F (putD f d fs) (putF f v ws)
 |[],ws,h=>by
  rw[repf_nil.mp h]
  exact repf_cons.mpr ⟨v,[],rfl,r,repf_nil.mpr rfl⟩
 |(g,x)::fs,ws,h=>by
  obtain⟨w,Jb,rfl,h1,h2⟩:=repf_cons.mp h
  unfold putD putF
  by_cases e:g=f
  ·rw[if_pos e,if_pos e]
   exact repf_cons.mpr ⟨v,Jb,rfl,r,h2⟩
  ·rw[if_neg e,if_neg e]
   exact repf_cons.mpr ⟨w,_,rfl,h1,RepF.put r h2⟩
theorem RepF.length{K:Ex}{F:Hp}:∀ {fs:List (Str × D)} {ws:List (Str × V)},RepF K F fs ws->ws.length=fs.length
 |[],ws,h=>by rw[repf_nil.mp h];rfl
 |(g,x)::fs,ws,h=>by
  obtain⟨w,Jb,rfl,h1,h2⟩:=repf_cons.mp h
  rw[EW,EW,RepF.length h2]
def ClsA(K:Ex)(x f:Str):Prop:=∃ C,nsIn K mainGlobals x=some (some (.ref C))/\Cls K C/\NoAttr K C f
section
variable {X:Cx}{a b c e:Expr}{ta tb tc te:TD}{pos:Pos}
def dFld(x f:Str)(te:TD):TD:=λz R=>te z λd=>match d with| .obj y fs=>y=x/\∃ d,fs.lookup f=some d/\R d|_=>False
theorem gD[Jx]{x f:Str}(h:ClsA X.K x f)(he:WDE X e te)(hb:attributeBase e f X.env (eval e X.env)=eval e X.env:=by rfl):WDE X (.Attribute e f pos) (dFld x f te):=⟨have he:=he.out;(pJ he hb).anti λs H Q q=>by
 obtain⟨C,hn,hc,hf⟩:=h
 obtain⟨B,F,z,kf,rs,R,h1,h2⟩:=q
 have fh:=kf.fh
 refine⟨B,F,z,kf,rs,_,h1,λd u F1 H1 g1 hx rx=>?_⟩
 split at hx
 ·obtain⟨rfl,d,hl,hR⟩:=hx
  obtain⟨a,C',dx,vs,rfl,k8,q,r⟩:=rep_obj.mp rx
  rw[hn] at k8
  cases k8
  obtain⟨v,l,rv⟩:=r.look hl
  exact⟨a,C,dx,vs,v,rfl,g1.fh _ _ q,hc,hf,l,h2 d v F1 H1 g1 hR rv⟩
 ·exact hx.elim⟩
theorem qX[Jx]{x:Str}{d:D}{v:V}{u:Value}(hm:X.mg x=some u)(r:RelV v u)(rd:∀ H,Rep X.K H d v)(hg:Gl X x:=by rfl)(hd:zND x:=by decide):DE X (.Name x pos) (dC d):=de_c (uy hg hm r hd) rd
theorem fG[Jx]{x:Str}{i:Int}(h:∃ t,X.mg x=some (.int i t))(hg:Gl X x:=by rfl)(hd:zND x:=by decide):WDE X (.Name x pos) (dC (.int i)):=⟨by
 obtain⟨t,h⟩:=h
 exact qX (v:= .int i) h ⟨t,rfl⟩ (λ_=>rep_int.mpr rfl) hg hd⟩
theorem eF[Jx]{x y:Str}(h:∃ t,X.mg x=some (.str y t))(hg:Gl X x:=by rfl)(hd:zND x:=by decide):WDE X (.Name x pos) (dC (.str y)):=⟨by
 obtain⟨t,h⟩:=h
 exact qX (v:= .str y) h ⟨t,rfl⟩ (λ_=>rep_str.mpr rfl) hg hd⟩
structure ClsI(K:Ex)(mg:Str->Option Value)(x:Str)(C:Addr):Prop where
 ns:nsIn K mainGlobals x=some (some (.ref C))
 mg:mg x=some (.ref C)
 cl:Cls K C
 ha:EZ K (.ref C) "__class__"=some (some (.builtin "object.__class__"))
 hn:specialIn K (.builtin "object.__class__") "__get__"=some (some (.builtin "getset_descriptor.__get__"))
 htk:takesIn K (.builtin "object.__class__")=some true
 hm:F6 K C (.type "object")=some true
 self:kitOne K (.ref C) (.ref C)=some true
end
abbrev SiD:=List D->(List (Str × D)->Prop)->Prop
def lSi(K:Ex)(C:Addr)(S:SiD):Sp:=λvs H Q _=>∃ a dx us H1 F ds,vs= .ref a::us/\H=upd (upd H1 dx (.own a)) a (.ins C dx [])/\H1 a=none/\H1 dx=none/\dx≠a/\Same F H1/\Reps K F ds us/\
 ∃ R:List (Str × D)->Prop,S ds R/\∀ fs ws D_ F' H',Grow F H1 F' H'->R fs->H' a=some (.ins C D_ ws)->F' a=none->RepF K F' fs ws->Q .non H'
def CalM(P:Program)(w:World)(K:Ex)(mg:Str->Option Value)(base:Heap)(n:Nat)(x:Str)(ps:List Str)(S:SiD):Prop:=
 ∃ C f fd,nsIn K mainGlobals x=some (some (.ref C))/\mg x=some (.ref C)/\Mk K C f/\FnOk P w K mg base (Exc.CX1 P w) n f fd ps (lSi K C S)/\Binds K fd ps []
def yu(x:Str)(S:SiD)(t:TDA):TD:=λz R=>t z λds=>S ds λfs=>R (.obj x fs)
theorem jN[Jx]{X:Cx}{pos:Pos}{n m:Nat}{ps:List Str}{S:SiD}{x:Str}{p:Pos}{e:Expr}{es:List Expr}{t:TDA}(M:CalM X.prog X.w X.K X.mg X.base n x ps S)(hr:Room m X.A)(ha:WDA X (e::es) t)(hg:Gl X x:=by rfl)(hn:n+1<=m:=by decide)(d7:zND x:=by decide)
  (he:zSE X e es:=by rfl) (b_:zPL X pos es:=by rfl):WDE X (.Call (.Name x p) (e::es) [] pos) (yu x S t):=⟨by
 have ha:=ha.out
 obtain⟨C,f,fd,hns,l9,mk,F,hb⟩:=M
 refine(jA mk F (hr.mono hn) hg l9 hb .nil fv ha d7 he b_).anti λs H Q q=>?_
 obtain⟨B,F,z,kf,rs,R,h1,h2⟩:=q
 have fh:=kf.fh
 refine⟨B,F,z,kf,rs,_,h1,λds vs F1 H1 g1 hx rx=>?_⟩
 intro a dx ha v5 j3
 refine⟨a,dx,vs,H1,F1,ds,by rw[FA],rfl,ha,v5,j3,g1.fh,rx,_,hx,λfs ws D_ F' H' g hR f8 i9 rf=>⟨rfl,?_⟩⟩
 have s1:Same F' (upd F' a (.ins C D_ ws)):=aQ i9 _
 refine h2 (.obj x fs) (.ref a) (upd F' a (.ins C D_ ws)) H' ⟨(g1.ff.trans g.ff).trans s1,λb o q=>?_,g1.hh.trans g.hh,λb q1 q2=>?_⟩ hR (rep_obj.mpr ⟨a,C,D_,ws,rfl,hns,az,RepF.mono s1 fs ws rf⟩)
 ·by_cases hb:b=a
  ·subst hb;rw[az] at q;cases q;exact f8
  ·rw[ao hb] at q;exact g.fh b o q
 ·by_cases hb:b=a
  ·subst hb
   exact absurd (g1.hh.free ha) q2
  ·rw[ao hb]
   exact(g1.trans g).out b q1 q2⟩
abbrev TID:=SD->List (Str × D)->(List (Str × D)->Prop)->Prop
def lI(K:Ex)[J:Jx](x:Str)(t:TID):TS:=λE σ H=>∃ C a dx ws F z fs,nsIn K mainGlobals x=some (some (.ref C))/\σ[0]?=some (some (.ref a))/\H a=some (.ins C dx ws)/\J.B a=none/\F a=none/\Kept J.B J.F0 F H/\RepS K J.B F H z σ/\RepF K F fs ws/\
 ∃ R:List (Str × D)->Prop,t z fs R/\∀ p6 Jb F' H',Kept J.B J.F0 F' H'->R p6->H' a=some (.ins C dx Jb)->F' a=none->RepF K F' p6 Jb->E.nx σ H'
abbrev DI(X:Cx)[Jx](x:Str)(st:List Stmt)(t:TID):Prop:=PSs X st (lI X.K x t)
structure WDI(X:Cx)[Jx](x:Str)(st:List Stmt)(t:TID):Prop where
 out:DI X x st t
section
variable {X:Cx}{x f:Str}{e:Expr}{te:TD}{pos c8 p:Pos}{rest:List Stmt}{tr:TID}
def qY:TID:=λ_ fs R=>R fs
def yw(f:Str)(te:TD)(tr:TID):TID:=λz fs R=>te z λd=>fs.length<1000/\tr z (putD f d fs) R
theorem dE[Jx]:WDI X x [] qY:=⟨pss_nil.anti λE s H q=>by
 obtain⟨C,a,dx,ws,F,z,fs,hn,h0,f8,E_,i9,g,rs,rf,R,hR,k⟩:=q
 exact k fs ws F H g hR f8 i9 rf⟩
theorem RepS.other{K:Ex}{B F H:Hp}{z:SD}{σ:L2.St}{a:Addr}{o o':HO}(rs:RepS K B F H z σ)(h:H a=some o)(hl:∀ vs,o≠.lst vs):RepS K B F (upd H a o') z σ:=
 ⟨rs.len,rs.val,λi ds e=>by
  obtain⟨b,vs,q1,q2,q⟩:=rs.own i ds e
  have ne:b≠a:=by
   rintro rfl
   rw[h] at q2
   cases q2
   exact hl vs rfl
  exact⟨b,vs,q1,by rw[ao ne];exact q2,q⟩,rs.apart⟩
theorem bE[J:Jx]{ps:Pos}{sx:Str}(hA:ClsA X.K x f)(he:WDE X e te)(hr:WDI X x rest tr)(hN:X.N[0]?=some sx:=by rfl)(hv:Vis X.env.scope sx:=by first|exact Or.inl rfl|exact Or.inr (Or.inl rfl)|exact Or.inr (Or.inr rfl))(hd:zND sx:=by decide)
  (ge:zNC sx:=by decide) (hs:swapsWith e (some (.Attribute (.Name sx ps) f c8)) pos.line X.env=pure false:=by rfl):WDI X x (.Assign [.Attribute (.Name sx ps) f c8] e pos::rest) (yw f te tr):=⟨have he:=he.out;have hr:=hr.out;(fg (pK (du (i:=0) hN hv hd ge) he hs) hr).anti λE s H q=>by
 obtain⟨C,a,dx,ws,F,z,fs,hn,h0,f8,E_,i9,g,rs,rf,R,hR,k⟩:=q
 obtain⟨C',k8,hc,hf⟩:=hA
 rw[hn] at k8
 cases k8
 refine⟨_,F,z,g,rs,_,hR,λd v F2 H2 g2 hx rv=>?_⟩
 have k2:=g.grow g2
 have NP:=g2.hh a _ f8
 have Ja:F2 a=none:=g2.out a i9 (by rw[f8];exact λz=>nomatch z)
 refine⟨.ref a,h0,a,C,dx,ws,rfl,NP,hc,hf,by rw[rf.length];exact hx.1,?_⟩
 have O3:Same F2 (upd H2 a (.ins C dx (putF f v ws))):=λb o q=>by
  have ne:b≠a:=by rintro rfl;rw[Ja] at q;cases q
  rw[ao ne];exact g2.fh b o q
 have y9:Same J.B (upd H2 a (.ins C dx (putF f v ws))):=λb o q=>by
  have ne:b≠a:=by rintro rfl;rw[E_] at q;cases q
  rw[ao ne];exact k2.bh b o q
 exact⟨C,a,dx,putF f v ws,F2,z,putD f d fs,hn,h0,az,E_,Ja,⟨y9,O3,k2.f0,k2.out,k2.eb,k2.jf,k2.jo⟩,(rs.grow g2).other NP (λ_ z=>nomatch z),RepF.put rv (RepF.mono g2.ff fs ws rf),R,hx.2,k⟩⟩
end
section
variable {P:Program}{w:World}{K:Ex}{mg:Str->Option Value}{base:Heap}
theorem qZ{K:Ex}{B F H:Hp}{z:SD}{σ:L2.St}{v:V}(rs:RepS K B F H z σ):RepS K B F H (none::z) (some v::σ):=
  ⟨by rw[EW,EW,rs.len],λi d e no=>by
    cases i with
    |zero=>cases e
    |succ i=>exact rs.val i d e no,λi ds e=>by
    cases i with
    |zero=>cases e
    |succ i=>exact rs.own i ds e,λi j di dj a e1 e2 e3 e4=>by
    cases i with
    |zero=>cases e1
    |succ i=>
      cases j with
      |zero=>cases e2
      |succ j=>rw[rs.apart i j di dj a e1 e2 e3 e4]⟩
theorem Cls.okI{x qual:Str}{st:Stmt}{f C:Addr}{fd:FuncData}{N:List Str}{p0:Str}{ps:List Str}{k:Nat}{S:SiD}(T:Fun K "__init__" qual st f fd)(hb:Binds K fd (p0::ps) [])(F:FnScope (p0::N) (p0::ps) (ag st))(len:∀ ds R,S ds R->ds.length=ps.length)
  (hns:nsIn K mainGlobals x=some (some (.ref C))) (l9:mg x=some (.ref C)) (mk:Mk K C f)
  (a_:∀ (cdv:Value) (A:Around) (outer:List Env) (s:Shared) (H:Hp) (E:XK) (J:Jx),Room k (A.deeper (envOfC qual (ag st) s.heap.objs.size f cdv))->
   ∃ t,DI (cxOf (Exc.CX1 P w) P w K mg base (p0::N) qual (ag st) f cdv A outer s H E).nox x (aH st) t/\∀ ds R,S ds R->t (none::startD N ds) [] R):CalM P w K mg base (k+1) x (p0::ps) S:=by
 refine⟨C,f,fd,hns,l9,mk,Fun.okC T F (λvs H Q E h=>?_) (λcdv A outer s H vs Q E hr h=>?_),hb⟩
 ·obtain⟨a,dx,us,H1,F,ds,rfl,_,_,_,_,_,rs,R,h,_⟩:=h
  rw[EW,EW,rs.length,len ds R h]
 ·obtain⟨a,dx,us,H1,F1,ds,rfl,rfl,ha,v5,j3,fh,rs,R,h,q⟩:=h
  letI:Jx:=⟨H1,F1,λ_ _ _=>False⟩
  obtain⟨t,ht,hq⟩:=a_ cdv A outer s _ E inferInstance hr
  have Fa:F1 a=none:=fh.free ha
  have hl:L2.start (p0::N) (.ref a::us)=some (.ref a)::L2.start N us:=by
   unfold L2.start
   rw[E9,EW,EW,HA];rfl
  have s1:Same H1 (upd (upd H1 dx (.own a)) a (.ins C dx [])):=(aQ v5 _).trans (aQ (by rw[ao (Ne.symm j3)];exact ha) _)
  refine⟨_,ht.nox,C,a,dx,[],F1,none::startD N ds,[],hns,by rw[hl];rfl,az,ha,Fa,⟨s1,fh.trans s1,Same.refl F1,λ_ h _=>h,rfl,Same.refl F1,λ_ h _=>h⟩,?_,repf_nil.mpr rfl,R,hq ds R h,λp6 Jb F' H' g hR f8 i9 rf=>q p6 Jb dx F' H' ⟨g.f0,g.fh,g.bh,g.out⟩ hR f8 i9 rf⟩
  rw[hl]
  exact qZ (dY rs)
end
section
variable {X:Cx}{a b c e:Expr}{ta tb tc te:TD}{pos:Pos}
def jO(t u:TD):TDI:=λz R=>t z λx=>u z λy=>match x,y with| .int i,.int j=>(-(2 ^ 62)<=i/\i<2 ^ 62/\-(2 ^ 62)<=j/\j<2 ^ 62)/\R ((ET (j - i).toNat).map λk=>D.int (i+((k:Nat):Int)))|_,_=>False
theorem yx[Jx](i:Nat){x:Str}{p p1 p2:Pos}{body:List Stmt}{NQ:TSD}(hp:PassesOwn (model X.prog X.w) X.A X.env X.xe)(hc:X.calm=true)(hN:X.N.Nodup)(hm:X.mg "range"=none)(ha:WDE X a ta)(gt:WDE X b tb)(hb:WDSs X body NQ)(hg:Gl X "range":=by rfl)(hi:X.N[i]?=some x:=by rfl)(hx:Loc X.env.scope x:=by first|exact Or.inl rfl|exact Or.inr rfl)
  (hf:zFN X x:=by first|exact .inl rfl|exact .inr rfl|assumption) (hs:∀ y,zFS X (.Call (.Name "range" p1) [a,b] [] p2) y:=by exact λ_=>rfl) (j_:zSE X a [b]:=by rfl) (Jc:zSE X b []:=by rfl) (d_:starEach [a,b] X.env=[(false,eval a X.env),(false,eval b X.env)]:=by rfl) (Jd:starEach [b] X.env=[(false,eval b X.env)]:=by rfl):WDS X (.For (.Name x p) (.Call (.Name "range" p1) [a,b] [] p2) body [] pos) (dFor i (jO ta tb) NQ):=⟨have ha:=ha.out;have gt:=gt.out;have hb:=hb.out;(cO hp hc (pk hg hm (bj ha (bj gt pa_nil Jc) j_) d_ Jd) (fk hN hi hx hf) hb hs).anti λE s H q=>by
 obtain⟨B,F0,F,z,kp,rs,ED,h,e⟩:=q
 refine⟨B,F,z,kp.kf,rs,_,h,λd1 v1 F1 H1 g1 h1 r1=>?_⟩
 refine⟨B,F1,z,kp.kf.grow g1,rs.grow g1,_,h1,λd2 v2 F2 H2 g2 h2 r2=>?_⟩
 split at h2
 ·rename_i lo m6
  obtain⟨bd,W,w0,c5,out⟩:=h2
  have hl:((ET (m6 - lo).toNat).map λk=>D.int (lo+((k:Nat):Int))).length=(m6 - lo).toNat:=by simp
  refine⟨lo,m6,by rw[rep_int.mp r1,rep_int.mp r2],bd,ju (lo:=lo) (n:=(m6 - lo).toNat) (λk s' H'=>∃ F' z',Kept B F0 F' H'/\RepS X.K B F' H' z' s'/\W k z') ⟨F2,z,(kp.grow g1).grow g2,(rs.grow g1).grow g2,w0⟩ ?_ ?_⟩
  ·rintro k s' H' hk ⟨F',z',k',r',w'⟩
   exact⟨B,F0,F',_,k',r'.set (d:= .int (lo+(k:Int))) (rep_int.mpr rfl),_,c5 k (.int (lo+(k:Int))) z' (by simp[hk]) w',⟨λz3 s3 F3 H3 k3 h3 r3=>⟨F3,z3,k3,r3,h3⟩,e.rt,e.nx,λz3 s3 F3 H3 k3 h3 r3=>⟨F3,z3,k3,r3,h3⟩⟩⟩
  ·rintro s' H' ⟨F',z',k',r',w'⟩
   exact e.nx z' s' F' H' k' (out z' (by rw[hl];exact w')) r'
 ·exact h2.elim⟩
theorem RepS.change[Jx]{K:Ex}{B F0 F H:Hp}{z:SD}{s:L2.St}{i:Nat}{ds L3:List D}{a:Addr}{l_:List V}(rs:RepS K B F H z s)(k:Kept B F0 F H)(ez:z[i]?=some (some (.own ds)))(q1:s[i]?=some (some (.ref a)))(hB:B a=none)(hF:F a=none)(r:Reps K F L3 l_):
  Kept B F0 F (upd H a (.lst l_))/\RepS K B F (upd H a (.lst l_)) (z.set i (some (.own L3))) s:=by
 have same:∀ {G:Hp},G a=none->Same G H->Same G (upd H a (.lst l_)):=λ{G} ga gs b o eb=>by
  have ne:b≠a:=λz=>by rw[z,ga] at eb;cases eb
  rw[ao ne];exact gs b o eb
 have r2:=rs.setOwn (i:=i) (a:=a) (vs:=l_) (ds:=L3) hB hF r (λj dj hj e1 e2=>hj (rs.apart j i dj ds a e1 ez e2 q1))
 have es:s.set i (some (.ref a))=s:=by
  apply Gn
  intro n
  by_cases hn:i=n
  ·subst hn
   rw[FG (Fb.mp q1).1,q1]
  ·rw[Ff hn]
 rw[es] at r2
 exact⟨⟨same hB k.bh,same hF k.fh,k.f0,k.out,k.eb,k.jf,k.jo⟩,r2⟩
theorem Reps.put{K:Ex}{F:Hp}{d:D}{v:V}(r:Rep K F d v):∀ {ds:List D} {vs:List V} (j:Nat),Reps K F ds vs->Reps K F (ds.set j d) (vs.set j v)
 |[],vs,j,h=>by rw[reps_nil.mp h];exact reps_nil.mpr rfl
 |x::ds,vs,0,h=>by
  obtain⟨u,us,rfl,h1,h2⟩:=reps_cons.mp h
  exact reps_cons.mpr ⟨v,us,rfl,r,h2⟩
 |x::ds,vs,j+1,h=>by
  obtain⟨u,us,rfl,h1,h2⟩:=reps_cons.mp h
  exact reps_cons.mpr ⟨u,_,rfl,h1,Reps.put r j h2⟩
def ra(i:Nat)(te ti:TD):TSD:=λE z=>match z[i]? with
 |some (some (.own ds))=>te z λd=>ti z λy=>match y with| .int k=>∃ j,ixN ds.length k=some j/\E.nx (z.set i (some (.own (ds.set j d))))|_=>False
 |_=>False
theorem yy[Jx](i:Nat){x:Str}{p1 p2:Pos}(he:WDE X e te)(hb:WDE X b tb)(hN:X.N[i]?=some x:=by rfl)(hv:Vis X.env.scope x:=by first|exact Or.inl rfl|exact Or.inr (Or.inl rfl)|exact Or.inr (Or.inr rfl))(hd:zND x:=by decide)
  (ge:zNC x:=by decide)
  (ha:∀ v,assign (.Subscript (.Name x p1) b p2) X.env v=(do
   let ov <- holding [v] (eval (.Name x p1) X.env)
   let iv <- holding [v,ov] (eval b X.env)
   standAt p2
   holding [v,ov,iv] (setItem ov iv v)
   release [v,ov,iv] []):=by intro _;rfl)
  (hs:swapsWithSole [.Subscript (.Name x p1) b p2] e pos.line X.env=pure false:=by rfl) (hw:swappedStores [.Subscript (.Name x p1) b p2] e X.env=pure none:=by rfl)
  (h1:(assignEach [.Subscript (.Name x p1) b p2] X.env).map (·.2)=[assign (.Subscript (.Name x p1) b p2) X.env]:=by rfl):WDS X (.Assign [.Subscript (.Name x p1) b p2] e pos) (ra i te tb):=⟨have he:=he.out;have hb:=hb.out;(jq he (vm (du hN hv hd ge) hb wF ha) hs hw h1).anti λE s H q=>by
 obtain⟨B,F0,F,z,k,rs,ED,h,e⟩:=q
 unfold ra at h
 split at h
 ·rename_i ds ez
  refine⟨B,F,z,k.kf,rs,_,h,λd v F1 H1 g1 hx rv=>?_⟩
  obtain⟨a,vs,q1,q2,q3,q4,q5⟩:=(rs.grow g1).own i ds ez
  refine⟨.ref a,q1,B,F1,z,k.kf.grow g1,rs.grow g1,_,hx,λy w F2 H2 g2 hy ry=>?_⟩
  split at hy
  ·obtain⟨j,ej,hn⟩:=hy
   have r2:=(rs.grow g1).grow g2
   have k2:=(k.grow g1).grow g2
   have Ja:F2 a=none:=g2.out a q4 (by rw[q2];exact λz=>nomatch z)
   refine⟨a,vs,_,j,rfl,rep_int.mp ry,g2.hh _ _ q2,by rw[q5.length];exact ej,?_⟩
   obtain⟨k3,r3⟩:=r2.change k2 ez q1 q3 Ja (Reps.put (rv.mono g2.ff) j (q5.mono g2.ff))
   exact e.nx _ s F2 _ k3 hn r3
  ·exact hy.elim
 ·exact h.elim⟩
end
end My
namespace My
open Exc
abbrev XD:=Str->List (Str × D)->Prop
def ErrD(K:Ex)(F:Hp)(x:Str)(fs:List (Str × D))(C:Addr)(od:Option Addr):Prop:=
 nsIn K mainGlobals x=some (some (.ref C))/\∃ vs,RepF K F fs vs/\((od=none/\vs=[])\/∃ b,od=some b/\F b=some (.xd vs))
abbrev SpX:=List D->(D->Prop)->XD->Prop
def lSpX(K:Ex)(S:SpX):Sp:=λvs H Q E=>∃ F ds,Same F H/\Reps K F ds vs/\∃ (R:D->Prop) (RX:XD),S ds R RX/\(∀ d v F' H',Grow F H F' H'->R d->Rep K F' d v->Q v H')/\
 ∀ x fs C od F' H',Grow F H F' H'->RX x fs->ErrD K F' x fs C od->E (.ref C) od H'
def Exd(X:Cx)(H:Hp)(s:Shared)(e C:Addr)(od:Option Addr):Prop:=
  H e=none/\X.s₀.heap.get? e=none/\(∀ p∈X.pn,p.1≠e)/\
  ((∃ sl vs,s.heap.get? e=some ⟨.ref C,od,.fields vs,sl⟩/\vs[1]?=some .none)\/
    ∃ T,ExAt s.heap e C od T .none/\X.s₀.heap.get? T=none/\H T=none/\∀ p∈X.pn,p.1≠T)
def XOk(X:Cx)[J:Jx]:Prop:=∀ (σ:L2.St) (z:SD) (F H:Hp) (s:Shared) (e C:Addr) (od:Option Addr) (x:Str) (fs:List (Str × D)),Inv X [] σ H s->Kept J.B J.F0 F H->RepS X.K J.B F H z σ->J.RX z x fs->ErrD X.K F x fs C od->Exd X H s e C od->X.xe (.ref e) s
theorem Inv.nopins{X:Cx}{pins:List (Addr × Obj)}{σ:L2.St}{H:Hp}{s:Shared}(I:Inv X pins σ H s):Inv X [] σ H s:=I.pins_of λp hp=>by cases hp
section
variable {X:Cx}{k:Nat}{f:Addr}{fd:FuncData}{ps:List Str}{sp:Sp}{E:XK}
theorem gE{pins:List (Addr × Obj)}{σ:L2.St}{H:Hp}{s:Shared}{Q:VK}{us:List Value}{vs:List V}(F:FnOk X.prog X.w X.K X.mg X.base (CX1 X.prog X.w) k f fd ps sp)(hr:Room k X.A)(hb:Binds X.K fd ps [])
  (hx:∀ e s',CX1 X.prog X.w X.stack H s E e s'->X.xe e s') (I:Inv X pins σ H s) (r:Vals vs us) (h:sp vs H Q E):wpAny (model X.prog X.w) X.A (call (.ref f) us) (EP X pins σ Q) X.xe s:=by
 have hl:us.length=ps.length:=by rw[<- L2.Vals.length r];exact F.len _ _ _ _ h
 have gt:=hb s us I.kIn (by rw[FA];exact hl)
 rw[FA] at gt
 refine wpAny_call (codeAny_mono (F.run X.A X.stack s H ⟨us,[]⟩ us vs Q E hr I.env0 gt r h) λr s' hq=>?_)
 cases r with
 |error e=>exact hx e s' hq
 |ok fl=>
  cases fl with
  |ret u=>exact I.after hq
  |next=>exact False.elim hq
  |brk=>exact False.elim hq
  |cont=>exact False.elim hq
end
theorem cI{X:Cx}{pins:List (Addr × Obj)}{σ:L2.St}{H:Hp}{s:Shared}{b:Addr}(I:Inv X pins σ H s)(f7:X.ex=[])(q:s.heap.get? b=none):X.s₀.heap.get? b=none:=by
 cases z:X.s₀.heap.get? b with
 |none=>rfl
 |some o=>
  obtain⟨o',z'⟩:=I.base.there b o z (by rw[f7];simp)
  rw[q] at z';cases z'
theorem pn_free{X:Cx}{pins:List (Addr × Obj)}{σ:L2.St}{H:Hp}{s:Shared}{b:Addr}(I:Inv X pins σ H s)(q:s.heap.get? b=none):∀ p∈X.pn,p.1≠b:=λp hp z=>by
 have:=(I.pin p (FJ _ hp)).1
 rw[z,q] at this;cases this
theorem XOk.out{X:Cx}[J:Jx](hx:XOk X)(f7:X.ex=[]){pins:List (Addr × Obj)}{σ:L2.St}{z:SD}{H:Hp}{s s':Shared}{ev:Value}(I:Inv X pins σ H s)
  (h:CX1 X.prog X.w X.stack H s (λCv od H'=>∃ x fs C F',Cv= .ref C/\Kept J.B J.F0 F' H'/\RepS X.K J.B F' H' z σ/\J.RX z x fs/\ErrD X.K F' x fs C od) ev s'):X.xe ev s':=by
 obtain⟨e,C,od,T,H',rfl,z8,hb,un,hok,L4,ne,nT,He,HT,x,fs,C',F',hC,kk,rr,hR,er⟩:=h
 cases hC
 have I':Inv X pins σ H' s':=I.call' z8 un hok hb (λb z=>absurd z (by simp))
 exact hx σ z F' H' s' e C od x fs (Inv.nopins I') kk rr hR er ⟨He,cI I f7 ne,pn_free I ne,.inr ⟨T,L4,cI I f7 nT,HT,pn_free I nT⟩⟩
abbrev CalX(P:Program)(w:World)(K:Ex)(mg:Str->Option Value)(base:Heap)(n:Nat)(x:Str)(ps:List Str)(S:SpX):Prop:=Cal P w K mg base n x ps (lSpX K S)
def yz[J:Jx](S:SpX)(t:TDA):TD:=λz R=>t z λds=>S ds R (J.RX z)
theorem jP{X:Cx}[J:Jx]{pos:Pos}{n m:Nat}{ps:List Str}{S:SpX}{x:Str}{p:Pos}{e:Expr}{es:List Expr}{t:TDA}(C:CalX X.prog X.w X.K X.mg X.base n x ps S)(hx:XOk X)(hr:Room m X.A)(ha:WDA X (e::es) t)(f7:X.ex=[]:=by rfl)(hg:Gl X x:=by rfl)(hn:n<=m:=by decide)(d7:zND x:=by decide)
  (he:zSE X e es:=by rfl) (b_:zPL X pos es:=by rfl):WDE X (.Call (.Name x p) (e::es) [] pos) (yz S t):=⟨by
 have ha:=ha.out
 obtain⟨f,fd,F,hb,hk,hm⟩:=C
 intro pins s σ H Q I h
 obtain⟨B,Fr,z,kf,rs,R,h1,h2⟩:=h
 obtain rfl:B=J.B:=kf.eb
 refine wpAny_Call_Name_kw (cF I hg hm ?_ d7)
 refine callWith_K (h₀:=X.base) I.ok.mod.kin hk (thn (ha pos pins s σ H (λvs H1=>lSpX X.K S vs H1 Q (λCv od H'=>∃ x fs C F',Cv= .ref C/\Kept J.B J.F0 F' H'/\RepS X.K J.B F' H' z σ/\J.RX z x fs/\ErrD X.K F' x fs C od)) I ⟨_,Fr,z,kf,rs,_,h1,λds vs F1 H1 g1 hx rx=>?_⟩) λus s1 ⟨vs,H1,I1,r,q⟩=>⟨I1.kIn,?_⟩) he b_
 ·exact⟨F1,ds,g1.fh,rx,R,J.RX z,hx,λd v F' H' g=>h2 d v F' H' (g1.trans g),λx fs C od F' H' g hR er=>⟨x,fs,C,F',rfl,(kf.grow g1).grow g,(rs.grow g1).grow g,hR,er⟩⟩
 ·exact gE F (hr.mono hn) hb (λe s' hq=>hx.out f7 I1 hq) I1 r q⟩
section
variable {P:Program}{w:World}{K:Ex}{mg:Str->Option Value}{base:Heap}
theorem rb{N:List Str}{qual:Str}{scope:Scope}{f:Addr}{cd:Value}{A:Around}{outer:List Env}{s:Shared}{H:Hp}{E':XK}{pins:List (Addr × Obj)}{σ:L2.St}{H':Hp}{s':Shared}{e C T:Addr}{od:Option Addr}
  (I':Inv (cxOf (CX1 P w) P w K mg base N qual scope f cd A outer s H E') pins σ H' s') (hx:ExAt s'.heap e C od T .none) (ne:s.heap.get? e=none) (nT:s.heap.get? T=none) (He:H' e=none) (HT:H' T=none) (hE:E' (.ref C) od H'):
  (cxOf (CX1 P w) P w K mg base N qual scope f cd A outer s H E').xe (.ref e) s':=by
 show wpAny _ _ (leaving _ _) _ _ _
 unfold leaving
 refine wpAny_bind (xn I'.ok.frames I'.stack rfl hx λh2 T2 J4 J5 IM=>qk (s:={s' with heap:=h2}) J4 λh3 LM Iy=>?_)
 have J6:s'.heap.get? T2=none:=Heap.get?_none_of_le J5
 have f1:∀ b,s'.heap.get? b=none->s.heap.get? b=none:=λb q=>cI I' rfl q
 have hok:HOk P w H' s'.heap:=I'.hok
 have J7:H' T2=none:=hok.fresh J5
 have O4:∀ b∈[T,e],s.heap.get? b=none:=λb hb=>by
  rcases EU.mp hb with z|z
  ·rw[z];exact nT
  ·rw[ES.mp z];exact ne
 have u2:Un (frs outer) [] H H' s.heap h2:=gk (show Un (frs outer) [] H H' s.heap s'.heap from I'.base) IM O4 λb hb=>ql hb
 have u3:Un (frs outer) [] H H' s.heap h3:=gk u2 Iy (λb hb=>by rw[ES.mp hb];exact f1 T2 J6) λb hb=>by cases hb
 have k2:=gj hok IM (λb hb=>I'.stkFree b hb) (λb hb=>by
  rcases EU.mp hb with z|z
  ·rw[z];exact HT
  ·rw[ES.mp z];exact He)
 have k3:=gj k2 Iy (λb hb=>by cases hb) (λb hb=>by rw[ES.mp hb];exact J7)
 exact⟨e,C,od,T2,H',rfl,I'.os,I'.bare,u3,k3,LM,ne,f1 T2 J6,He,J7,hE⟩
theorem _root_.L2.Fun.okX{x:Str}{st:Stmt}{f:Addr}{fd:FuncData}{N ps:List Str}{k:Nat}{S:SpX}(T:Fun K x x st f fd)(F:FnScope N ps (ag st))(len:∀ ds R RX,S ds R RX->ds.length=ps.length)
  (a_:∀ (cdv:Value) (A:Around) (outer:List Env) (s:Shared) (H:Hp) (E:XK) (J:Jx),Room k (A.deeper (envOfC x (ag st) s.heap.objs.size f cdv))->XOk (cxOf (CX1 P w) P w K mg base N x (ag st) f cdv A outer s H E)->
   ∃ t,DSs (cxOf (CX1 P w) P w K mg base N x (ag st) f cdv A outer s H E) (aH st) t/\∀ ds R RX,(∀ z,J.RX z=RX)->S ds R RX->t {nx:=λ_=>R .non,rt:=R} (startD N ds)):FnOk P w K mg base (CX1 P w) (k+1) f fd ps (lSpX K S):=by
 refine Fun.okC T F (λvs H Q E h=>?_) (λcdv A outer s H vs Q E hr h=>?_)
 ·obtain⟨F,ds,fh,rs,R,RX,h,_⟩:=h
  rw[rs.length];exact len ds R RX h
 ·obtain⟨F,ds,fh,rs,R,RX,h,q,qx⟩:=h
  letI:Jx:=⟨H,F,λ_=>RX⟩
  have hx:XOk (cxOf (CX1 P w) P w K mg base N x (ag st) f cdv A outer s H E):=by
   intro σ z F' H' s' e C od y fs I kk rr hR er ⟨He,ne,_,hx⟩
   have hE:E (.ref C) od H':=qx y fs C od F' H' ⟨kk.f0,kk.fh,kk.bh,kk.out⟩ hR er
   rcases hx with⟨sl,vs,h1,h2⟩|⟨T,h1,h2,h3,_⟩
   ·exact qm I h1 h2 He ne hE
   ·exact rb I h1 ne h2 He h3 hE
  obtain⟨t,ht,hq⟩:=a_ cdv A outer s H E inferInstance hr hx
  refine⟨_,ht,H,F,F,startD N ds,⟨Same.refl H,fh,Same.refl F,λ_ h _=>h,rfl,Same.refl F,λ_ h _=>h⟩,dY rs,_,hq ds R RX (λ_=>rfl) h,⟨λz' s' F' H' k hn _=>q _ _ F' H' ⟨k.f0,k.fh,k.bh,k.out⟩ hn (rep_non.mpr rfl),λd v F' H' k hd rd=>q d v F' H' ⟨k.f0,k.fh,k.bh,k.out⟩ hd rd,λ_ _ _ _ _ h _=>h.elim,λ_ _ _ _ _ h _=>h.elim⟩⟩
theorem Tx.okX{x:Str}{st:Stmt}{N ps:List Str}{k:Nat}{S:SpX}(T:Tx K mg x st ps)(F:FnScope N ps (ag st))(len:∀ ds R RX,S ds R RX->ds.length=ps.length)
  (a_:∀ (f:Addr) (cdv:Value) (A:Around) (outer:List Env) (s:Shared) (H:Hp) (E:XK) (J:Jx),Room k (A.deeper (envOfC x (ag st) s.heap.objs.size f cdv))->XOk (cxOf (CX1 P w) P w K mg base N x (ag st) f cdv A outer s H E)->
   ∃ t,DSs (cxOf (CX1 P w) P w K mg base N x (ag st) f cdv A outer s H E) (aH st) t/\∀ ds R RX,(∀ z,J.RX z=RX)->S ds R RX->t {nx:=λ_=>R .non,rt:=R} (startD N ds)):CalX P w K mg base (k+1) x ps S:=by
 obtain⟨f,fd,T,hb,hm⟩:=T
 exact⟨f,fd,T.okX F len λcdv A outer s H E J hr hx=>a_ f cdv A outer s H E J hr hx,hb,T.kp,hm⟩
end
theorem ObjOk.there{P:Program}{w:World}{H:Hp}{h:Heap}{a:Addr}{o:HO}(x:ObjOk P w H h a o):∃ u,h.get? a=some u:=by
 cases o with
 |lst xs=>obtain⟨_,_,_,_,e⟩:=x;exact⟨_,e⟩
 |tup xs=>obtain⟨_,_,_,o,e,_⟩:=x;exact⟨_,e⟩
 |dK a8=>obtain⟨_,_,_,_,o,_,_,e,_⟩:=x;exact⟨_,e⟩
 |dT a8=>obtain⟨_,_,_,_,o,_,_,e,_⟩:=x;exact⟨_,e⟩
 |set S n=>obtain⟨o,_,_,_,e,_⟩:=x;exact⟨_,e⟩
 |ins C dx fs=>obtain⟨_,_,_,e,_⟩:=x;exact⟨_,e⟩
 |own y=>exact x
 |xd fs=>obtain⟨_,⟨_,_,_,e,_⟩,_⟩:=x;exact⟨_,e⟩
 |rng lo hi=>obtain⟨_,_,_,e⟩:=x;exact⟨_,e⟩
 |frz ob u=>obtain⟨e,_⟩:=x;exact⟨_,e⟩
 |tbl ps=>exact⟨_,(show h.get? a=some _ from x)⟩
 |met f y=>exact⟨_,(show h.get? a=some _ from x)⟩
 |ext φ=>obtain⟨_,e,_⟩:=x;exact e
theorem gG{P:Program}{w:World}{H:Hp}{h:Heap}{a:Addr}(x:HOk P w H h)(e:h.get? a=none):H a=none:=by
 cases q:H a with
 |none=>rfl
 |some o=>
  obtain⟨u,hu⟩:=ObjOk.there (x a o q)
  rw[e] at hu;cases hu
def del(H:Hp)(a:Addr):Hp:=λb=>if b=a then none else H b
theorem fH{H:Hp}{a:Addr}:del H a a=none:=by unfold del;rw[if_pos rfl]
theorem bZ{H:Hp}{a b:Addr}(h:b≠a):del H a b=H b:=by unfold del;rw[if_neg h]
section
variable {X:Cx}{pins:List (Addr × Obj)}{σ:L2.St}{H:Hp}{s:Shared}{e:Addr}
theorem Inv.drop{φ:Heap->Prop}(I:Inv X pins σ H s)(h:H e=some (.ext φ))(ne:X.s₀.heap.get? e=none):Inv X pins σ (del H e) s:=by
 have nx:∀ b o,H b=some o->(∀ φ,o≠.ext φ)->b≠e:=λb o q n z=>by rw[z,h] at q;cases q;exact n φ rfl
 refine⟨I.ok,I.os,I.bare,⟨I.base.keep,I.base.slot,λb o q n hx=>?_,I.base.there,λb xs q=>?_,λb o u q=>?_,λb ps q=>?_⟩,I.loc,I.cell,?_,λx c q=>?_,λp hp=>?_,λa o q=>?_,I.len⟩
 ·have:b≠e:=λz=>by rw[z,ne] at q;cases q
  rw[bZ this];exact I.base.free b o q n hx
 ·have:=I.base.tups b xs q
  rw[bZ (nx b _ this λφ z=>nomatch z)];exact this
 ·have:=I.base.frzs b o u q
  rw[bZ (nx b _ this λφ z=>nomatch z)];exact this
 ·obtain⟨m,this⟩:=I.base.tbls b ps q
  exact⟨m,by rw[bZ (nx b _ this λφ z=>nomatch z)];exact this⟩
 ·by_cases z:X.env.locals=e
  ·rw[z];exact fH
  ·rw[bZ z];exact I.free
 ·by_cases z:c=e
  ·rw[z];exact fH
  ·rw[bZ z];exact I.freeC x c q
 ·obtain⟨h1,h2,h3⟩:=I.pin p hp
  refine⟨h1,?_,h3⟩
  by_cases z:p.1=e
  ·rw[z];exact fH
  ·rw[bZ z];exact h2
 ·by_cases z:a=e
  ·rw[z,fH] at q;cases q
  ·rw[bZ z] at q
   exact(I.hok a o q).stay (λb u _ r=>r) (λb r=>by rw[bZ (nx b _ r λφ z=>nomatch z)];exact r) λb xs r=>by rw[bZ (nx b _ r λφ z=>nomatch z)];exact r
theorem Inv.adopt{φ:Heap->Prop}(I:Inv X pins σ H s)(He:H e=none)(ok:ObjOk X.prog X.w H s.heap e (.ext φ))(ne:X.s₀.heap.get? e=none)(hl:e≠X.env.locals)(hc:∀ x c,X.env.cells.lookup x=some c->c≠e)(hp:∀ p∈X.pn++pins,p.1≠e):Inv X pins σ (upd H e (.ext φ)) s:=by
 refine⟨I.ok,I.os,I.bare,⟨I.base.keep,I.base.slot,λb o q n hx=>?_,I.base.there,λb xs q=>?_,λb o u q=>?_,λb ps q=>?_⟩,I.loc,I.cell,?_,λx c q=>?_,λp L5=>?_,λa o q=>?_,I.len⟩
 ·have:b≠e:=λz=>by rw[z,ne] at q;cases q
  rw[ao this];exact I.base.free b o q n hx
 ·have:=I.base.tups b xs q
  rw[ao (bK this He)];exact this
 ·have:=I.base.frzs b o u q
  rw[ao (bK this He)];exact this
 ·obtain⟨m,this⟩:=I.base.tbls b ps q
  exact⟨m,by rw[ao (bK this He)];exact this⟩
 ·rw[ao (Ne.symm hl)];exact I.free
 ·rw[ao (hc x c q)];exact I.freeC x c q
 ·obtain⟨h1,h2,h3⟩:=I.pin p L5
  refine⟨h1,?_,h3⟩
  rw[ao (hp p L5)];exact h2
 ·by_cases z:a=e
  ·rw[z,az] at q;cases q
   rw[z];exact ok
  ·rw[ao z] at q
   exact(I.hok a o q).stay (λb u _ r=>r) (λb r=>by rw[ao (bK r He)];exact r) λb xs r=>by rw[ao (bK r He)];exact r
end
structure ErrK(K:Ex)(mg:Str->Option Value)(x:Str)(C N:Addr)(bm:List Value):Prop where
 ns:nsIn K mainGlobals x=some (some (.ref C))
 mg:mg x=some (.ref C)
 kp:keepIn K (.ref C)=true
 obj:∃ nm q bs sn sub ab col dd k0 k1 k2 k3 k5,K.lookup C=some (excClassObj nm q C N bs bm true sn sub ab col dd k0 k1 k2 k3 k5 "ValueError.__new__")
 tail:tailIn K veLine bm=true
structure ErrN(K:Ex)(N:Addr):Prop where
 ok:nsOkIn K N=true
 no:nsIn K N "__init__"=some none
theorem jQ{K:Ex}:∀ {l:List Value},tailIn K veLine l=true->aP l=true
 |[],e=>by simp[tailIn,veLine] at e
 |v::r,e=>by
  unfold tailIn at e
  rcases Bool.or_eq_true_iff.mp e with q|q
  ·rw[beq_iff_eq.mp q];decide+kernel
  ·split at q
   ·split at q
    ·simp only[FC,beq_iff_eq] at q
     unfold aP
     exact jQ q.2
    ·cases q
   ·cases q
theorem ErrK.base{K:Ex}{mg:Str->Option Value}{x:Str}{C N:Addr}{bm:List Value}(k:ErrK K mg x C N bm):bm.contains (.type "BaseException")=true:=gh (by decide+kernel) (jQ k.tail)
section
variable {X:Cx}[J:Jx]{x:Str}{C N:Addr}{bm:List Value}{e:Expr}{es:List Expr}{t:TDA}{p cpos pos:Pos}
def yB(x:Str)(t:TDA):TSD:=λ_ z=>t z λds=>ds.length<=1000/\J.RX z x []
theorem yD(h:∃ C N bm,ErrK X.K X.mg x C N bm/\ErrN X.K N)(hx:XOk X)(hc:X.calm=true)(ha:WDA X (e::es) t)(f7:X.ex=[]:=by rfl)(hg:Gl X x:=by rfl)(d7:zND x:=by decide)
  (he:zSE X e es:=by rfl) (b_:zPL X cpos es:=by rfl):WDS X (.Raise (some (.Call (.Name x p) (e::es) [] cpos)) none pos) (yB x t):=⟨by
 have ha:=ha.out
 obtain⟨C,N,bm,k,kn⟩:=h
 intro pins s σ H D I h
 obtain⟨B,F0,F,z,kf,rs,ED,h,ee⟩:=h
 obtain rfl:B=J.B:=kf.eb
 obtain⟨nm,q,bs,sn,sub,ab,col,dd,k0,k1,k2,k3,k5,lk⟩:=k.obj
 refine jE (nm:=nm) (q:=q) (C:=C) (N:=N) (bs:=bs) (bm:=bm) (hdct:=true) (sn:=sn) (sub:=sub) (ab:=ab) (col:=col) (dd:=dd) (k0:=k0) (k1:=k1) (k2:=k2) (k3:=k3) (k5:=k5) (newId:="ValueError.__new__") k.base (I.ok.hd hc) ?_
 refine wpAny_Call_Name_kw (cF I hg k.mg ?_ d7)
 refine callWith_K (h₀:=X.base) I.ok.mod.kin k.kp (thn (ha cpos pins s σ H (λvs H1=>∃ F1,vs.length<=1000/\Grow F H F1 H1/\J.RX z x []) I ⟨_,F,z,kf.kf,rs,_,h,λds vs F1 H1 g1 hx rx=>⟨F1,by rw[rx.length];exact hx.1,g1,hx.2⟩⟩) λus s1 ⟨vs,H1,I1,r,F1,hl,g1,hR⟩=>⟨I1.kIn,?_⟩) he b_
 have hC:=I1.kIn _ _ lk
 obtain⟨hp,gg,dr,tk,os⟩:=s1
 refine wpAny_call_exc_subT PySem.F.excBase_ValueError (tail_of_in I1.kIn k.tail) hC (.of_isNs (isNs_of_in I1.kIn kn.ok)) (nsMap_none_of_in I1.kIn kn.ok kn.no) (λh' ea hm=>?_) (by show us.length<=_;rw[<- L2.Vals.length r];exact sz hl)
 obtain⟨ta,h1,h2,h3⟩:=hm.there
 have I2:Inv X pins σ H1 ⟨h',gg,dr,tk,os⟩:=I1.kept (t':=tk) hm.keeps
 refine⟨ea,ta,none,#[],rfl,hm.keeps _ _ hC,h1,?_⟩
 exact hx σ z F1 H1 _ ea C none x [] (Inv.nopins I2) (kf.kf.grow g1) (rs.grow g1) hR ⟨k.ns,[],repf_nil.mpr rfl,.inl ⟨rfl,rfl⟩⟩ ⟨gG I1.hok hm.new,cI I1 f7 hm.new,pn_free I1 hm.new,.inl ⟨#[],_,h1,rfl⟩⟩⟩
end
def XN(e C:Addr)(od:Option Addr):HO:= .ext λh=>∃ t sl,h.get? e=some ⟨.ref C,od,.fields #[.ref t,.none,.none,.none,.bool false,.none],sl⟩
theorem XN.ok{P:Program}{w:World}{H:Hp}{h:Heap}{e C t:Addr}{od:Option Addr}{sl:Array (Option Value)}(q:h.get? e=some ⟨.ref C,od,.fields #[.ref t,.none,.none,.none,.bool false,.none],sl⟩):ObjOk P w H h e (XN e C od):=
 ⟨⟨t,sl,q⟩,⟨_,q⟩,λh1 h2 ⟨t,sl,q⟩ k=>⟨t,sl,k _ q⟩⟩
theorem XN.get{P:Program}{w:World}{H:Hp}{h:Heap}{e C:Addr}{od:Option Addr}(x:HOk P w H h)(q:H e=some (XN e C od)):∃ t sl,h.get? e=some ⟨.ref C,od,.fields #[.ref t,.none,.none,.none,.bool false,.none],sl⟩:=(x e _ q).1
def ErrF(K:Ex)(F:Hp)(fs:List (Str × D))(od:Option Addr):Prop:=∃ vs,RepF K F fs vs/\((od=none/\vs=[])\/∃ b,od=some b/\F b=some (.xd vs))
def lEi(K:Ex)(C:Addr)(S:SiD):Sp:=λvs H Q _=>∃ e us H1 F ds,vs= .ref e::us/\H=upd H1 e (XN e C none)/\H1 e=none/\Same F H1/\Reps K F ds us/\
 ∃ R:List (Str × D)->Prop,S ds R/\∀ fs od F' H',Grow F H1 F' H'->R fs->H' e=some (XN e C od)->F' e=none->ErrF K F' fs od->Q .non H'
def CalE(P:Program)(w:World)(K:Ex)(mg:Str->Option Value)(base:Heap)(n:Nat)(x:Str)(ps:List Str)(S:SiD):Prop:=
 ∃ C N bm f fd,ErrK K mg x C N bm/\EZ K (.ref C) "__init__"=some (some (.ref f))/\isFn K (.ref f)=true/\FnOk P w K mg base (CX1 P w) n f fd ps (lEi K C S)/\Binds K fd ps []
section
variable {X:Cx}{pins:List (Addr × Obj)}{σ:L2.St}{H:Hp}{s:Shared}{e:Addr}
theorem Inv.newx{C:Addr}{h':Heap}{us:List Value}(I:Inv X pins σ H s)(f7:X.ex=[])(hm:Heap.MadeExcOf s.heap h' e (.ref C) us):Inv X pins σ (upd H e (XN e C none)) {s with heap:=h'}:=by
 obtain⟨ta,h1,h2,h3⟩:=hm.there
 have I2:Inv X pins σ H {s with heap:=h'}:=I.kept (t':=s.toks) hm.keeps
 refine Inv.adopt I2 (gG I.hok hm.new) (XN.ok h1) (cI I f7 hm.new) (λz=>?_) (λx c q z=>?_) λp hp z=>?_
 ·obtain⟨m,⟨o,_,_,ho,_⟩,_⟩:=I.loc
  rw[<- z,hm.new] at ho;cases ho
 ·obtain⟨v,o,ho,_⟩:=I.cell x c q
  rw[z,hm.new] at ho;cases ho
 ·have:=(I.pin p hp).1
  rw[z,hm.new] at this;cases this
end
structure BaseK(K:Ex)(mg:Str->Option Value)(y:Str)(M:Addr):Prop where
 mg:mg y=some (.ref M)
 rd:readsIn K M (.type "type")=true
 fc:findCls K (.ref M) (.type "type") "__init__"=some (.val (.builtin "ValueError.__init__"))
 sp:specialIn K (.ref M) "__getattribute__"=some (some (.builtin "type.__getattribute__"))
structure ErrA(K:Ex)(x:Str)(C:Addr)(cd:ClassData):Prop where
 ns:nsIn K mainGlobals x=some (some (.ref C))
 cl:G1 K C=some cd
 mro:aP cd.mro=true
 hd:cd.hasDict=true
 sa:EZ K (.ref C) "__setattr__"=some (some (.builtin "object.__setattr__"))
theorem ErrK.a{x:Str}{K:Ex}{mg:Str->Option Value}{C N:Addr}{bm:List Value}(k:ErrK K mg x C N bm)(sa:EZ K (.ref C) "__setattr__"=some (some (.builtin "object.__setattr__"))):∃ cd,ErrA K x C cd:=by
 obtain⟨nm,q,bs,sn,sub,ab,col,dd,k0,k1,k2,k3,k5,lk⟩:=k.obj
 exact⟨_,k.ns,by unfold G1;rw[lk],by
  show aP (.ref C::bm)=true
  unfold aP;exact jQ k.tail,rfl,sa⟩
def lX(K:Ex)[J:Jx](x:Str)(t:TID):TS:=λE σ H=>∃ C e od ws F z fs,nsIn K mainGlobals x=some (some (.ref C))/\σ[0]?=some (some (.ref e))/\H e=some (XN e C od)/\J.B e=none/\F e=none/\Kept J.B J.F0 F H/\RepS K J.B F H z σ/\RepF K F fs ws/\
 ((od=none/\ws=[])\/∃ b,od=some b/\H b=some (.xd ws)/\J.B b=none/\F b=none/\b≠e/\ws≠[])/\
 ∃ R:List (Str × D)->Prop,t z fs R/\∀ p6 K4 F' H',Kept J.B J.F0 F' H'->R p6->H' e=some (XN e C K4)->F' e=none->ErrF K F' p6 K4->E.nx σ H'
abbrev DX(X:Cx)[Jx](x:Str)(st:List Stmt)(t:TID):Prop:=PSs X st (lX X.K x t)
structure WDX(X:Cx)[Jx](x:Str)(st:List Stmt)(t:TID):Prop where
 out:DX X x st t
theorem re{H:Hp}{a:Addr}{o:HO}(h:H a=some o):upd H a o=H:=by
 funext b
 unfold upd
 by_cases q:b=a
 ·rw[if_pos q,q,h]
 ·rw[if_neg q]
section
variable {X:Cx}[J:Jx]{x f:Str}{e:Expr}{te:TD}{ta:TDA}{pos c8 p:Pos}{rest:List Stmt}{tr:TID}
theorem rg:WDX X x [] qY:=⟨pss_nil.anti λE s H q=>by
 obtain⟨C,a,od,ws,F,z,fs,hn,h0,f8,hB,i9,k,rs,rf,hd,R,hR,kk⟩:=q
 rcases hd with⟨rfl,rfl⟩|⟨b,rfl,hb,K5,K6,ne,_⟩
 ·exact kk fs none F H k hR f8 i9 ⟨[],rf,.inl ⟨rfl,rfl⟩⟩
 ·have s1:Same F (upd F b (.xd ws)):=aQ K6 _
  refine kk fs (some b) (upd F b (.xd ws)) H ⟨k.bh,λc o q=>?_,k.f0.trans s1,λc h1 h2=>?_,k.eb,k.jf,k.jo⟩ hR f8 (by rw[ao (Ne.symm ne)];exact i9) ⟨ws,RepF.mono s1 fs ws rf,.inr ⟨b,rfl,az⟩⟩
  ·by_cases hc:c=b
   ·subst hc;rw[az] at q;cases q;exact hb
   ·rw[ao hc] at q;exact k.fh c o q
  ·have:c≠b:=λz=>h2 (z ▸ K5)
   rw[ao this];exact k.out c h1 h2⟩
def yF(ta:TDA)(tr:TID):TID:=λz fs R=>ta z λds=>ds.length<=1000/\tr z fs R
theorem rh{y sx:Str}{ps py apos cpos:Pos}{es:List Expr}{pl:Sem Bool}(hb:∃ M,BaseK X.K X.mg y M)(hA:∃ C cd,ErrA X.K x C cd)(ha:WDA X es ta)(hr:WDX X x rest tr)(hg:Gl X y:=by rfl)(hN:X.N[0]?=some sx:=by rfl)(hv:Vis X.env.scope sx:=by first|exact Or.inl rfl|exact Or.inr (Or.inl rfl)|exact Or.inr (Or.inr rfl))(hd:zND sx:=by decide)
  (ge:zNC sx:=by decide) (O5:zND y:=by decide)
  (he:starEach (.Name sx ps::es) X.env=(false,eval (.Name sx ps) X.env)::starEach es X.env:=by rfl) (b_:zPL X cpos es:=by rfl)
  (ht:eval (.Call (.Attribute (.Name y py) "__init__" apos) (.Name sx ps::es) [] cpos) X.env=(do
   let ov <- eval (.Name y py) X.env
   standAt apos.atName
   let (f,first) <- holding [ov] (getMethod ov "__init__" pl)
   callWith cpos f first (backTo cpos (starEach (.Name sx ps::es) X.env)) (backToKw cpos (keywordEach [] X.env))):=by rfl)
  (hs:swapsWith (.Call (.Attribute (.Name y py) "__init__" apos) (.Name sx ps::es) [] cpos) none pos.line X.env=pure false:=by rfl):WDX X x (.Expr (.Call (.Attribute (.Name y py) "__init__" apos) (.Name sx ps::es) [] cpos) pos::rest) (yF ta tr):=⟨by
 have ha:=ha.out
 have hr:=hr.out
 obtain⟨M,bk⟩:=hb
 obtain⟨C,cd,er⟩:=hA
 have step:PS X (.Expr (.Call (.Attribute (.Name y py) "__init__" apos) (.Name sx ps::es) [] cpos) pos) (λE σ H=>∃ C' e od,nsIn X.K mainGlobals x=some (some (.ref C'))/\σ[0]?=some (some (.ref e))/\
   lA X.K ta σ H (λvs H1=>H1 e=some (XN e C' od)/\vs.length<=1000/\E.nx σ H1)):=by
  intro pins s σ H D I h
  obtain⟨C',ea,od,hn,h0,h⟩:=h
  rw[er.ns] at hn
  cases hn
  refine wpAny_Expr_any (methodCall_KW (pl:=pl) (cF I hg bk.mg ?_ O5) ht) I.quiet hs
  refine method_cls I.kIn bk.sp (cls_value I.kIn bk.rd bk.fc (by decide+kernel) ?_)
  have I0:Inv X pins σ H {s with toks:=s.toks+1}:=I.tok _
  obtain⟨B,F,z,kf,rs,R,h1,h2⟩:=h
  refine PyProof.Rows.callWith_builtin1 (thn (bj (du (i:=0) hN hv hd ge) ha he cpos pins _ σ H (λvs H1=>∃ us,vs= .ref ea::us/\H1 ea=some (XN ea C od)/\us.length<=1000/\D.nx σ H1) I0 ⟨.ref ea,h0,⟨B,F,z,kf,rs,R,h1,λds vs F' H' g hx rx=>⟨vs,rfl,h2 ds vs F' H' g hx rx⟩⟩⟩) λus s1 ⟨vs,H1,I1,r,Qa,ev,v7,hl,Kf⟩=>?_) he b_
  subst ev
  cases r with
  |cons r1 r2=>
   rename_i u0 Qb _
   obtain rfl:u0=Value.ref ea:=r1
   obtain⟨t0,sl,n9⟩:=XN.get I1.hok v7
   refine xh (K:=X.K) (C:=C) (cd:=cd) I1.kIn n9 rfl rfl er.cl er.mro (by rw[<- L2.Vals.length r2];exact sz hl) λh' g1 g2=>?_
   refine⟨σ,H1,?_,Kf⟩
   have w:=I1.write (x:=ea) (e:=ea) (o:=XN ea C od) (h':=h') (t':=s1.toks) (by rw[v7];exact True.intro) (.inl rfl) (λb u hb q=>g2 b u hb q) ⟨_,g1⟩ (XN.ok g1)
   rw[re v7] at w
   exact w
 refine(fg step hr).anti λE s H q=>?_
 obtain⟨C',a,od,ws,F,z,fs,hn,h0,f8,hB,i9,k,rs,rf,f9,R,hR,kk⟩:=q
 refine⟨C',a,od,hn,h0,_,F,z,k,rs,_,hR,λds vs F1 H1 g hx rx=>⟨g.hh a _ f8,by rw[rx.length];exact hx.1,?_⟩⟩
 refine⟨C',a,od,ws,F1,z,fs,hn,h0,g.hh a _ f8,hB,g.out a i9 (by rw[f8];exact λz=>nomatch z),k.grow g,rs.grow g,RepF.mono g.ff fs ws rf,?_,R,hx.2,kk⟩
 rcases f9 with f9|⟨b,h1,h2,h3,h4,h5⟩
 ·exact .inl f9
 ·exact .inr ⟨b,h1,g.hh b _ h2,h3,g.out b h4 (by rw[h2];exact λz=>nomatch z),h5⟩⟩
def yG(f:Str)(te:TD)(tr:TID):TID:=λz fs R=>fs=[]/\te z λd=>tr z [(f,d)] R
theorem rj{sx:Str}{ps:Pos}(hA:∃ C cd,ErrA X.K x C cd)(hf:∀ C,nsIn X.K mainGlobals x=some (some (.ref C))->EZ X.K (.ref C) f=some none)(he:WDE X e te)(hr:WDX X x rest tr)(hN:X.N[0]?=some sx:=by rfl)(hv:Vis X.env.scope sx:=by first|exact Or.inl rfl|exact Or.inr (Or.inl rfl)|exact Or.inr (Or.inr rfl))(hd:zND sx:=by decide)
  (ge:zNC sx:=by decide) (hs:swapsWith e (some (.Attribute (.Name sx ps) f c8)) pos.line X.env=pure false:=by rfl):WDX X x (.Assign [.Attribute (.Name sx ps) f c8] e pos::rest) (yG f te tr):=⟨by
 have he:=he.out
 have hr:=hr.out
 obtain⟨C,cd,er⟩:=hA
 have Kg:=hf C er.ns
 have step:PS X (.Assign [.Attribute (.Name sx ps) f c8] e pos) (λE σ H=>∃ e,σ[0]?=some (some (.ref e))/\
   lE X.K te σ H (λv H1=>H1 e=some (XN e C none)/\∀ b,H1 b=none->b≠e->E.nx σ (upd (upd H1 b (.xd [(f,v)])) e (XN e C (some b))))):=by
  intro pins s σ H D I h
  obtain⟨ea,h0,h⟩:=h
  refine plainObj_wpAny_Assign_Attribute (thn (he pins s σ H _ I h) λu s1 ⟨y,H1,I1,ry,v7,Kf⟩=>thn (du (i:=0) hN hv hd ge pins s1 σ H1 (λv H'=>v= .ref ea/\H'=H1) I1 ⟨.ref ea,h0,rfl,rfl⟩) λov s2 ⟨v0,H2,I2,r0,e1,e2⟩=>?_) hs
  subst e1 e2
  obtain rfl:ov=Value.ref ea:=r0
  obtain⟨t0,sl,n9⟩:=XN.get I2.hok v7
  refine xg (K:=X.K) (C:=C) (cd:=cd) I2.kIn n9 rfl rfl rfl er.cl er.mro er.hd er.sa Kg λh' g1 g2 g3 tk=>?_
  have A':H2 s2.heap.objs.size=none:=I2.hok.fresh (ER _)
  have j3:s2.heap.objs.size≠ea:=FT (Heap.lt_size n9)
  have L6:∀ b o,s2.heap.get? b=some o->b≠s2.heap.objs.size:=λb o q=>E3 (Heap.lt_size q)
  have L7:∀ b,H2 b=none->b≠ea:=λb q z=>by rw[z,v7] at q;cases q
  refine⟨σ,_,?_,Kf _ A' j3⟩
  have Kh:∀ b o,H2 b=some o->(∀ φ,o≠.ext φ)->upd (upd H2 s2.heap.objs.size (.xd [(f,y)])) ea (XN ea C (some s2.heap.objs.size)) b=some o:=λb o q n=>by
   have n1:b≠ea:=λz=>by rw[z,v7] at q;cases q;exact n _ rfl
   rw[ao n1,ao (bK q A')];exact q
  refine I2.un (h':=h') (t':=tk) ⟨λb o q n _ _=>g3 b o (L7 b n) q,λb o q n _ _=>⟨o.slots,g3 b o (L7 b n) q⟩,λb o q n _=>?_,λb o q _=>?_,λb xs q=>Kh b _ q (λφ z=>nomatch z),λb o u q=>Kh b _ q (λφ z=>nomatch z),λb ps q=>⟨#[],by rw[Kh b _ q (λφ z=>nomatch z)];simp⟩⟩ λa o q=>?_
  ·rw[ao (L7 b n),ao (L6 b o q)];exact n
  ·by_cases hb:b=ea
   ·rw[hb];exact⟨_,g1⟩
   ·exact⟨o,g3 b o hb q⟩
  ·by_cases ha:a=ea
   ·subst ha
    rw[az] at q;cases q
    exact XN.ok g1
   ·rw[ao ha] at q
    by_cases hb:a=s2.heap.objs.size
    ·subst hb
     rw[az] at q;cases q
     refine⟨_,g2,λg=>?_⟩
     rw[Fd]
     by_cases hg:g=f
     ·subst hg;simp;exact ry
     ·have:(g==f)=false:=by simpa using hg
      rw[this,if_neg hg];exact True.intro
    ·rw[ao hb] at q
     refine(I2.hok a o q).stay (λb u gt r=>?_) (λb r=>Kh b _ r (λφ z=>nomatch z)) λb xs r=>Kh b _ r (λφ z=>nomatch z)
     refine g3 b u (λz=>?_) r
     rcases gt with e1|e1
     ·exact ha (e1 ▸ z)
     ·rw[z,v7] at e1;cases e1
 refine(fg step hr).anti λE s H q=>?_
 obtain⟨C',a,od,ws,F,z,fs,hn,h0,f8,hB,i9,k,rs,rf,f9,R,⟨rfl,hR⟩,kk⟩:=q
 rw[er.ns] at hn
 cases hn
 have O6:ws=[]:=repf_nil.mp rf
 subst O6
 refine⟨a,h0,_,F,z,k,rs,_,hR,λd v F1 H1 g hx rv=>?_⟩
 have Ki:F1 a=none:=g.out a i9 (by rw[f8];exact λz=>nomatch z)
 have k1:=k.grow g
 rcases f9 with⟨rfl,_⟩|⟨b,rfl,h1,h2,h3,h4⟩
 ·refine⟨g.hh a _ f8,λb hb j3=>?_⟩
  have K5:J.B b=none:=k1.bh.free hb
  have K6:F1 b=none:=k1.fh.free hb
  have same:∀ {G:Hp},G a=none->G b=none->Same G H1->Same G (upd (upd H1 b (.xd [(f,v)])) a (XN a C (some b))):=λ{G} ga gb gs c o q=>by
   have n1:c≠a:=λz=>by rw[z,ga] at q;cases q
   have n2:c≠b:=λz=>by rw[z,gb] at q;cases q
   rw[ao n1,ao n2];exact gs c o q
  have t6:=rs.grow g
  refine⟨C,a,some b,[(f,v)],F1,z,[(f,d)],er.ns,h0,az,hB,Ki,⟨same hB K5 k1.bh,same Ki K6 k1.fh,k1.f0,k1.out,k1.eb,k1.jf,k1.jo⟩,?_,repf_cons.mpr ⟨v,[],rfl,rv,repf_nil.mpr rfl⟩,.inr ⟨b,rfl,by rw[ao j3];exact az,K5,K6,j3,λz=>nomatch z⟩,R,hx,kk⟩
  refine⟨t6.len,t6.val,λi ds e'=>?_,t6.apart⟩
  obtain⟨c,vs,q1,q2,q⟩:=t6.own i ds e'
  have n1:c≠a:=λz=>by rw[z,g.hh a _ f8] at q2;cases q2
  have n2:c≠b:=λz=>by rw[z,hb] at q2;cases q2
  exact⟨c,vs,q1,by rw[ao n1,ao n2];exact q2,q⟩
 ·exact absurd rfl h4.2⟩
end
section
variable {P:Program}{w:World}{K:Ex}{mg:Str->Option Value}{base:Heap}
theorem Cls.okE{x qual:Str}{st:Stmt}{f C N0:Addr}{bm:List Value}{fd:FuncData}{N:List Str}{p0:Str}{ps:List Str}{k:Nat}{S:SiD}(T:Fun K "__init__" qual st f fd)(hb:Binds K fd (p0::ps) [])(F:FnScope (p0::N) (p0::ps) (ag st))(len:∀ ds R,S ds R->ds.length=ps.length)
  (ek:ErrK K mg x C N0 bm) (hi:EZ K (.ref C) "__init__"=some (some (.ref f))) (hf:isFn K (.ref f)=true)
  (a_:∀ (cdv:Value) (A:Around) (outer:List Env) (s:Shared) (H:Hp) (E:XK) (J:Jx),Room k (A.deeper (envOfC qual (ag st) s.heap.objs.size f cdv))->
   ∃ t,DX (cxOf (CX1 P w) P w K mg base (p0::N) qual (ag st) f cdv A outer s H E).nox x (aH st) t/\∀ ds R,S ds R->t (none::startD N ds) [] R):CalE P w K mg base (k+1) x (p0::ps) S:=by
 refine⟨C,N0,bm,f,fd,ek,hi,hf,Fun.okC T F (λvs H Q E h=>?_) (λcdv A outer s H vs Q E hr h=>?_),hb⟩
 ·obtain⟨a,us,H1,F,ds,rfl,_,_,_,rs,R,h,_⟩:=h
  rw[EW,EW,rs.length,len ds R h]
 ·obtain⟨a,us,H1,F1,ds,rfl,rfl,ha,fh,rs,R,h,q⟩:=h
  letI:Jx:=⟨H1,F1,λ_ _ _=>False⟩
  obtain⟨t,ht,hq⟩:=a_ cdv A outer s _ E inferInstance hr
  have Fa:F1 a=none:=fh.free ha
  have hl:L2.start (p0::N) (.ref a::us)=some (.ref a)::L2.start N us:=by
   unfold L2.start
   rw[E9,EW,EW,HA];rfl
  have s1:Same H1 (upd H1 a (XN a C none)):=aQ ha _
  refine⟨_,ht.nox,C,a,none,[],F1,none::startD N ds,[],ek.ns,by rw[hl];rfl,az,ha,Fa,⟨s1,fh.trans s1,Same.refl F1,λ_ h _=>h,rfl,Same.refl F1,λ_ h _=>h⟩,?_,repf_nil.mpr rfl,.inl ⟨rfl,rfl⟩,R,hq ds R h,λp6 K4 F' H' g hR f8 i9 er=>q p6 K4 F' H' ⟨g.f0,g.fh,g.bh,g.out⟩ hR f8 i9 er⟩
  rw[hl]
  exact qZ (dY rs)
end
abbrev _root_.L2.Cx.held(X:Cx)(e:Addr):Cx:={X with A:=X.A.mark (some (.ref e)),calm:=false,xe:=λ_ _=>False}
section
variable {X:Cx}{pins:List (Addr × Obj)}{σ:L2.St}{H:Hp}{s:Shared}{e:Addr}
theorem Cx.Ok.held(ok:X.Ok):(X.held e).Ok:=
 ⟨ok.mod,ok.kind,ok.glob,ok.blt,ok.above,ok.inj,ok.has,ok.cab,(λz=>nomatch z),ok.frames,ok.stk,ok.exf,ok.bs,ok.bsz,ok.noex,ok.exfs,ok.funs,ok.frf⟩
theorem Inv.held(I:Inv X pins σ H s):Inv (X.held e) pins σ H s:=⟨Cx.Ok.held I.ok,I.os,I.bare,I.base,I.loc,I.cell,I.free,I.freeC,I.pin,I.hok,I.len⟩
end
def subE(x c:Str):Bool:=x==c||c=="MotifError"
structure ErrsK(K:Ex)(mg:Str->Option Value)(es:List Str):Prop where
 cls:∀ x∈es,∃ C N bm,ErrK K mg x C N bm
 sub:∀ x∈es,∀ y∈es,∀ C C',nsIn K mainGlobals x=some (some (.ref C))->nsIn K mainGlobals y=some (some (.ref C'))->F6 K C (.ref C')=some (subE x y)
theorem ErrsK.has{K:Ex}{mg:Str->Option Value}{es:List Str}(k:ErrsK K mg es){x y:Str}{C C' N N':Addr}{bm O7:List Value}(hx:x∈es)(hy:y∈es)(a:ErrK K mg x C N bm)(b:ErrK K mg y C' N' O7):(Value.ref C::bm).contains (.ref C')=subE x y:=by
 have h:=k.sub x hx y hy C C' a.ns b.ns
 obtain⟨nm,q,bs,sn,sub,ab,col,dd,k0,k1,k2,k3,k5,lk⟩:=a.obj
 unfold F6 G1 at h
 rw[lk] at h
 simp only[GZ,List.isEmpty_cons,Bool.false_eq_true,if_false,Option.some.injEq] at h
 exact h
structure Held(X:Cx)(pins:List (Addr × Obj))(H:Hp)(s:Shared)(e C:Addr)(od:Option Addr)(T:Addr):Prop where
 ex:ExAt s.heap e C od T .none
 He:H e=none
 HT:H T=none
 e0:X.s₀.heap.get? e=none
 T0:X.s₀.heap.get? T=none
 eP:∀ p∈X.pn++pins,p.1≠e
 TP:∀ p∈X.pn++pins,p.1≠T
section
variable {X:Cx}{pins:List (Addr × Obj)}{σ:L2.St}{H:Hp}{s:Shared}
theorem XO.ok{P:Program}{w:World}{h:Heap}{e C:Addr}{od:Option Addr}{vs:Array Value}{sl:Array (Option Value)}(q:h.get? e=some ⟨.ref C,od,.fields vs,sl⟩):ObjOk P w H h e (XO e C od):=
 ⟨⟨vs,sl,q⟩,⟨_,q⟩,λh1 h2 ⟨vs,sl,q⟩ k=>⟨vs,sl,k _ q⟩⟩
end
abbrev TH:=Str->List (Str × D)->TSD
theorem Kept.un{J:Jx}{B F0 F H F' H':Hp}{RX:SD->XD}(k:@Kept J B F0 F H)(k':@Kept ⟨B,F0,RX⟩ B F0 F' H'):@Kept J B F0 F' H':=by
 obtain⟨a,b,c,d,_,_,_⟩:=k'
 exact @Kept.mk J B F0 F' H' a b c d k.eb k.jf k.jo
def ErrG(K:Ex)(f y:Str):Prop:=∃ C cd,ErrA K y C cd/\EZ K (.ref C) "__getattribute__"=some (some (.builtin "BaseException.__getattribute__"))/\EZ K (.ref C) "__getattr__"=some none/\EZ K (.ref C) f=some none
theorem rk{K:Ex}:tailIn K veLine veLine=true:=by
 unfold tailIn
 rfl
theorem rn{K:Ex}{N:Addr}{c:Value}{d:Option Addr}{es:Array DictEntry}{ep:Nat}{sl:Array (Option Value)}(l:K.lookup N=some ⟨c,d,.dict es ep,sl⟩)(h:es.toList.all (λe=>match e.key with| .str _ _=>true|_=>false)=true):nsOkIn K N=true:=by
 unfold nsOkIn
 rw[l]
 dsimp only
 rw[<- HB]
 exact h
theorem yH{K:Ex}{M N:Addr}{c0:Value}{dd:Option Addr}{cd:ClassData}{sl:Array (Option Value)}(l:K.lookup M=some ⟨c0,dd,.cls cd,sl⟩)(hn:cd.ns=N)(h1:nsOkIn K N=true)(h2:nsIn K N "__init__"=some none):tailIn K veLine (.ref M::veLine)=true:=by
 unfold tailIn
 subst hn
 dsimp only
 rw[l]
 dsimp only
 rw[h1,h2,rk]
 simp
theorem yI{K:Ex}{C:Addr}:kitOne K (.ref C) (.ref C)=some true:=by
 unfold kitOne
 rw[if_pos (beq_self_eq_true _)]
def gH(S:SpX):SpD:=λds R=>S ds R λ_ _=>False
theorem CalX.no{P:Program}{w:World}{K:Ex}{mg:Str->Option Value}{base:Heap}{n:Nat}{x:Str}{ps:List Str}{S:SpX}(C:CalX P w K mg base n x ps S):CalD P w K mg base n x ps (gH S):=by
 obtain⟨f,fd,F,hb,hk,hm⟩:=C
 refine⟨f,fd,F.imp λvs H Q E h=>?_,hb,hk,hm⟩
 obtain⟨F,ds,fh,rs,R,h,q⟩:=h
 exact⟨F,ds,fh,rs,R,_,h,q,λ_ _ _ _ _ _ _ z=>z.elim⟩
end My
namespace My
def repS(x:Str)(n:Nat):Str:=⟨(FB n x.cps.toList).flatten.toArray⟩
theorem rq{α:Type}(l:List α):∀ m:Nat,(ET m).filterMap (λk=>l[k]?)=l.take m
 |0=>by simp
 |m+1=>by
  rw[Go,List.filterMap_append,rq l m,HC]
  cases h:l[m]?<;>simp[h]
theorem yJ(lo hi:Option Int)(n:Nat):Builtin.Str.strSliceIndices lo hi 1 n=(ET (HT.sIx n n hi - HT.sIx n 0 lo)).map λk=>HT.sIx n 0 lo+k:=by
 have F_:∀ (i:Int) (d:Nat),max 0 (min (if i<0 then i+(n:Int) else i) (n:Int))=((HT.sIx n d (some i):Nat):Int):=by
  intro i d
  show max 0 (min (if i<0 then i+(n:Int) else i) (n:Int))=(((if i<0 then(i+(n:Int)).toNat else min i.toNat n):Nat):Int)
  by_cases h:i<0
  ·rw[if_pos h,if_pos h];lia
  ·rw[if_neg h,if_neg h];lia
 have h1:Builtin.Str.strSliceIndices lo hi 1 n=sliceRange ((HT.sIx n 0 lo:Nat):Int) ((HT.sIx n n hi:Nat):Int) 1:=by
  unfold Builtin.Str.strSliceIndices
  simp only[show(1:Int)>0 by decide,if_true]
  cases lo with
  |none=>cases hi with
   |none=>rfl
   |some j=>rw[<- F_ j n];rfl
  |some i=>cases hi with
   |none=>rw[<- F_ i 0];rfl
   |some j=>rw[<- F_ i 0,<- F_ j n]
 rw[h1]
 unfold sliceRange
 simp only[show(1:Int)>0 by decide,if_true]
 have e3:(if((HT.sIx n 0 lo:Nat):Int)<((HT.sIx n n hi:Nat):Int) then(((HT.sIx n n hi:Nat):Int) - ((HT.sIx n 0 lo:Nat):Int)+1 - 1) / 1 else 0).toNat=HT.sIx n n hi - HT.sIx n 0 lo:=by
  split<;>lia
 rw[e3]
 apply GE
 intro k _
 lia
theorem slice_cps(y:Str)(lo hi:Option Int):Txt.slice y lo hi=⟨((y.cps.toList.drop (HT.sIx y.length 0 lo)).take (HT.sIx y.length y.length hi - HT.sIx y.length 0 lo)).toArray⟩:=by
 have la:HT.sIx y.length 0 lo<=y.length:=HT.sIx_le _ _ (Fp _) lo
 have lb:HT.sIx y.length y.length hi<=y.length:=HT.sIx_le _ _ (ER _) hi
 unfold Txt.slice
 rw[yJ]
 split
 ·rename_i h
  have hl:HT.sIx y.length y.length hi - HT.sIx y.length 0 lo=y.length:=by simpa using h
  have ha:HT.sIx y.length 0 lo=0\/y.length=0:=by lia
  rw[hl]
  obtain⟨cp⟩:=y
  have e:(G2 (HT.sIx (Str.mk cp).length 0 lo) cp.toList)=cp.toList:=by
   rcases ha with ha|ha
   ·rw[ha];rfl
   ·have:cp=#[]:=Array.eq_empty_of_size_eq_zero ha
    subst this;simp
  show(⟨cp⟩:Str)=⟨((G2 (HT.sIx (Str.mk cp).length 0 lo) cp.toList).take cp.size).toArray⟩
  rw[e,HD (by simp)]
 ·congr 2
  rw[Ht]
  have:=rq (y.cps.toList.drop (HT.sIx y.length 0 lo)) (HT.sIx y.length y.length hi - HT.sIx y.length 0 lo)
  rw[<- this]
  congr 1
  funext k
  simp
section
variable {X:Cx}[J:Jx]{a b c e:Expr}{ta tb tc te:TD}{pos:Pos}
def EN:RD2:=λx y R=>match x,y with
 | .int i,.int j=>CMul i j/\R (.int (i*j))
 | .str i,.int n=>(-(2 ^ 62)<=n/\n<=1000000/\i.length*n.toNat<=1000000)/\R (.str (repS i n.toNat))
 | .lst xs,.int n=>(-(2 ^ 62)<=n/\n<=1000000/\xs.length*n.toNat<=1000000)/\R (.lst (FB n.toNat xs).flatten)
 |_,_=>False
theorem yL:SlR X (λx lo hi H Q=>∃ y,x= .str y/\y.length<=sizeLine/\Q (.str (Txt.slice y lo hi)) H):=by
 intro pins s σ H x v vl vu lo hi sl Q I rx hs pl pu h
 obtain⟨y,rfl,hz,q⟩:=h
 obtain⟨t,rfl⟩:=rx
 have d5:∀ t' k,EP X pins σ Q (.str (Txt.slice y lo hi) t') {s with toks:=k}:=λt' k=>⟨.str _,H,I.tok k,⟨_,rfl⟩,q⟩
 have le:=E4 (Txt.slice_le y lo hi) hz
 refine⟨"str",_,PySem.F.slot_str_getitem.lookup,typeIs_str _ _ _,?_⟩
 cases pl with
 |none=>cases pu with
  |none=>exact wpAny_getItem_str_slice (l:=none) (u:=none) (st:=none) hs rfl (post_val_or_str ⟨le,d5⟩)
  |int j tj=>exact wpAny_getItem_str_slice (l:=none) (u:=some (j,tj)) (st:=none) hs rfl (post_val_or_str ⟨le,d5⟩)
 |int i ti=>cases pu with
  |none=>exact wpAny_getItem_str_slice (l:=some (i,ti)) (u:=none) (st:=none) hs rfl (post_val_or_str ⟨le,d5⟩)
  |int j tj=>exact wpAny_getItem_str_slice (l:=some (i,ti)) (u:=some (j,tj)) (st:=none) hs rfl (post_val_or_str ⟨le,d5⟩)
abbrev TDO:=SD->(Option Int->Prop)->Prop
def yM:TDO:=λ_ R=>R none
def yO(te:TD):TDO:=λz R=>te z λx=>match x with| .int i=>R (some i)|_=>False
def lO(K:Ex)[J:Jx](t:TDO):TO:=λs H Q=>∃ B F z,Kept B J.F0 F H/\RepS K B F H z s/\∃ R:Option Int->Prop,t z R/\∀ o F' H',Grow F H F' H'->R o->Q o H'
abbrev DPO(X:Cx)[Jx](e:Option Expr)(t:TDO):Prop:=PO X e (lO X.K t)
structure WDPO(X:Cx)[Jx](e:Option Expr)(t:TDO):Prop where
 out:DPO X e t
theorem PO.anti{X:Cx}{e:Option Expr}{t t':TO}(h:PO X e t)(a:∀ s H Q,t' s H Q->t s H Q):PO X e t':=λpins s σ H Q I q=>h pins s σ H Q I (a _ _ _ q)
theorem gI:WDPO X none yM:=⟨PO.anti pT λs H Q q=>by
 obtain⟨B,F,z,kf,rs,R,h1,h2⟩:=q
 exact h2 none F H (Grow.refl kf.fh) h1⟩
theorem gJ(he:WDE X e te):WDPO X (some e) (yO te):=⟨have he:=he.out;PO.anti (pU he) λs H Q q=>by
 obtain⟨B,F,z,kf,rs,R,h1,h2⟩:=q
 refine⟨B,F,z,kf,rs,_,h1,λx u F1 H1 g1 hx rx=>?_⟩
 split at hx
 ·exact⟨_,rep_int.mp rx,h2 _ F1 H1 g1 hx⟩
 ·exact hx.elim⟩
def rdSl:D->Option Int->Option Int->(D->Prop)->Prop:=λx lo hi R=>match x with
 | .str y=>y.length<=1000000/\R (.str (Txt.slice y lo hi))
 | .lst xs=>R (.lst (cutD xs lo hi))
 | .rol xs=>R (.lst (cutD xs lo hi))
 | .tup xs=>¬ (HT.sIx xs.length 0 lo=0/\HT.sIx xs.length xs.length hi=xs.length)/\R (.tup (cutD xs lo hi))
 |_=>False
def dSl(ta:TD)(tl th:TDO):TD:=λz R=>ta z λx=>tl z λlo=>th z λhi=>rdSl x lo hi R
theorem gK{lo hi:Option Expr}{tl th:TDO}{p2:Pos}(ha:WDE X a ta)(hl:WDPO X lo tl)(hu:WDPO X hi th):WDE X (.Subscript a (.Slice lo hi none p2) pos) (dSl ta tl th):=⟨have ha:=ha.out;have hl:=hl.out;have hu:=hu.out;(pV (SlR.or yL (SlR.or qa wz)) ha hl hu).anti λs H Q q=>by
 obtain⟨B,F,z,kf,rs,R,h1,h2⟩:=q
 refine⟨B,F,z,kf,rs,_,h1,λx u F1 H1 g1 hx rx=>?_⟩
 refine⟨B,F1,z,kf.grow g1,rs.grow g1,_,hx,λlo F2 H2 g2 hy=>?_⟩
 refine⟨B,F2,z,(kf.grow g1).grow g2,(rs.grow g1).grow g2,_,hy,λhi F3 H3 g3 hw=>?_⟩
 have g:=g1.trans (g2.trans g3)
 have K7:=(rx.mono g2.ff).mono g3.ff
 unfold rdSl at hw
 split at hw
 ·exact .inl ⟨_,rep_str.mp K7,E4 hw.1 (by decide),h2 _ _ F3 H3 g hw.2 (rep_str.mpr rfl)⟩
 ·obtain⟨l,vs,rfl,hq,rr⟩:=rep_lst.mp K7
  refine .inr (.inl ⟨l,vs,rfl,SqL.of (g3.fh _ _ hq),λp hp=>?_⟩)
  exact h2 _ _ _ _ (g.trans (Grow.new g3.fh hp _)) hw (rep_lst.mpr ⟨p,_,rfl,az,(rr.cut _ _).mono (aQ (g3.fh.free hp) _)⟩)
 ·obtain⟨l,vs,rfl,hq,rr⟩:=rep_rol.mp K7
  refine .inr (.inl ⟨l,vs,rfl,g3.fh.seq hq,λp hp=>?_⟩)
  exact h2 _ _ _ _ (g.trans (Grow.new g3.fh hp _)) hw (rep_lst.mpr ⟨p,_,rfl,az,(rr.cut _ _).mono (aQ (g3.fh.free hp) _)⟩)
 ·obtain⟨l,vs,rfl,hq,rr⟩:=rep_tup_mp K7
  refine .inr (.inr ⟨l,vs,rfl,g3.fh.tup hq,by rw[rr.length];exact hw.1,λp hp=>?_⟩)
  exact h2 _ _ _ _ (g.trans (Grow.new g3.fh hp _)) hw.2 (rep_tupS.mpr ⟨p,_,rfl,az,(rr.cut _ _).mono (aQ (g3.fh.free hp) _)⟩)
 ·exact hw.elim⟩
def rdIn(neg:Bool):RD2:=λx y R=>match x,y with
 | .str i,.str j=>R (.bl (if neg then !(!(Builtin.Str.occurrences j i 0 j.length 1).isEmpty) else !(Builtin.Str.occurrences j i 0 j.length 1).isEmpty))
 |x,.lst ys=>(bY x=true/\ys.all bY=true)/\R (.bl (if neg then !(ys.any λy=>eqF y x) else ys.any λy=>eqF y x))
 |x,.rol ys=>(bY x=true/\ys.all bY=true)/\R (.bl (if neg then !(ys.any λy=>eqF y x) else ys.any λy=>eqF y x))
 |x,.tup ys=>(bY x=true/\ys.all bY=true)/\R (.bl (if neg then !(ys.any λy=>eqF y x) else ys.any λy=>eqF y x))
 |_,_=>False
theorem gL{K:Ex}{H:Hp}{x:D}{u:V}(rx:Rep K H x u)(fx:bY x=true):∀ {ys:List D} {vs:List V},Reps K H ys vs->ys.all bY=true->inV u vs=ys.any λy=>eqF y x
 |[],vs,r,_=>by rw[reps_nil.mp r];rfl
 |y::ys,vs,r,f=>by
  obtain⟨v,vr,rfl,r1,r2⟩:=reps_cons.mp r
  rw[GB,FC] at f
  have ih:=gL rx fx r2 f.2
  unfold inV at ih ⊢
  rw[F8,F8,ih,eqV_of r1 rx f.1 fx]
def rInV(K:Ex)(neg:Bool):R2:=λx y H Q=>(∃ i j,x= .str i/\y= .str j/\Q (.bl (if neg then !(!(Builtin.Str.occurrences j i 0 j.length 1).isEmpty) else !(Builtin.Str.occurrences j i 0 j.length 1).isEmpty)) H)\/rIn K neg x y H Q
theorem yQ{K:Ex}{neg:Bool}:aU K (rInV K neg) (rdIn neg):=by
 intro x y u v F H R Q fh h rx ry q
 unfold rdIn at h
 split at h
 ·exact .inl ⟨_,_,rep_str.mp rx,rep_str.mp ry,q _ _ F H (Grow.refl fh) h (rep_bl.mpr rfl)⟩
 ·obtain⟨⟨f1,f2⟩,h⟩:=h
  obtain⟨l,vs,rfl,hq,rr⟩:=rep_lst.mp ry
  exact .inr ⟨l,vs,rfl,.inl (fh.seq (SqL.of hq)),gq rx f1,gu rr f2,q _ _ F H (Grow.refl fh) h (rep_bl.mpr (by rw[gL rx f1 rr f2]))⟩
 ·obtain⟨⟨f1,f2⟩,h⟩:=h
  obtain⟨l,vs,rfl,hq,rr⟩:=rep_rol.mp ry
  exact .inr ⟨l,vs,rfl,.inl (fh.seq hq),gq rx f1,gu rr f2,q _ _ F H (Grow.refl fh) h (rep_bl.mpr (by rw[gL rx f1 rr f2]))⟩
 ·obtain⟨⟨f1,f2⟩,h⟩:=h
  obtain⟨l,vs,rfl,hq,rr⟩:=rep_tup_mp ry
  exact .inr ⟨l,vs,rfl,.inr (fh.tup hq),gq rx f1,gu rr f2,q _ _ F H (Grow.refl fh) h (rep_bl.mpr (by rw[gL rx f1 rr f2]))⟩
 ·exact h.elim
theorem yR:OpR X (compareOp .NotIn) (rInV X.K true):=OpR.or wJ wI
end
end My
namespace L2
def Its(x:Str):It:=⟨λi _=>i<x.length,λi H v H'=>H'=H/\∃ c,x.cps[i]?=some c/\v= .str ⟨#[c]⟩,λi _=>x.length<=i⟩
theorem yT{P:Program}{w:World}{K:Ex}{tg:Expr}(x:Str)(t:Tok)(it:Addr):Turn P w K tg (Its x) [it] it (λi h=>h.IsStrIter it "str_ascii_iterator" x t i) where
 mem:=by simp
 obj:=λi h st b hb=>by
  have e:b=it:=by simpa using hb
  subst e
  obtain⟨o,e,c,d⟩:=st
  exact⟨o,e,λv z=>by rw[d] at z;cases z⟩
 keep:=λi h h' st k=>by
  obtain⟨o,e,r⟩:=st
  exact⟨o,k it (by simp) o e,r⟩
 item:=by
  intro X hP hw hK hc i pins s σ H E I hf st hg
  subst hP hw hK
  have hi:i<x.cps.size:=hg
  obtain⟨f0,f1,f2,f3,f4,f5⟩:=hf it (by simp)
  refine wpAny_pyNext_ascii_item st (c:=x.cps[i]) (HE hi) λh' st' sb=>?_
  have I1:Inv X pins σ H {s with heap:=h',toks:=s.toks+1}:=I.turned (t':=s.toks+1) (λb o hb e=>(sb.2 b hb).trans e) f0 f1 f3 f4 f5
  obtain⟨o,e,c,d⟩:=id st'
  exact⟨_,rfl,js (s:={s with heap:=h',toks:=s.toks+1}) e c d (by decide) ⟨.str ⟨#[x.cps[i]]⟩,H,I1,⟨_,rfl⟩,⟨rfl,_,HE hi,rfl⟩,st',λb hb=>(hf b hb).1⟩⟩
 done:=by
  intro X hP hw hK hc i pins s σ H E I hf st hg
  subst hP hw hK
  have hi:x.cps.size<=i:=hg
  obtain⟨f0,f1,f2,f3,f4,f5⟩:=hf it (by simp)
  exact wpAny_pyNext_ascii_end (I.ok.hd hc) st (Array.getElem?_eq_none hi) λh' eb=>⟨rfl,I.turned (t':=s.toks) (λb o hb e=>eb b o hb e) f0 f1 f3 f4 f5⟩
 self:=λA i s Q E st hQ=>wpAny_pyIter_striter_ascii st hQ
def iStr(tl:TE):TI:=λσ H R=>tl σ H λv H1=>∃ x,v= .str x/\x.cps.all (·<128)=true/\R (Its x) H1
theorem yU{X:Cx}{tg l:Expr}{tl:TE}(hl:PE X l tl):PI X tg l (iStr tl):=by
 intro pins s σ H R I h
 refine thn (hl pins s σ H _ I h) λv s1 ⟨v1,H1,I1,r1,q1⟩=>?_
 obtain⟨x,rfl,ha,q⟩:=q1
 obtain⟨t,rfl⟩:=r1
 refine wpAny_pyIter_ascii ha ?_
 refine⟨s1.heap.objs.size,[s1.heap.objs.size],_,_,H1,rfl,I1.kept (t':=s1.toks) λb o e=>Heap.get?_push_of_some _ e,yT x t _,⟨_,Heap.get?_push_size _ rfl,rfl,rfl⟩,λb hb=>?_,q⟩
 have e:b=s1.heap.objs.size:=by simpa using hb
 subst e
 exact I1.fpOk (ER _) (I1.hok.fresh (ER _))
end L2
namespace My
section
variable {X:Cx}[J:Jx]{a b c e:Expr}{ta tb tc te:TD}{pos:Pos}
def bP(x:Str):List D:=x.cps.toList.map λc=>D.str ⟨#[c]⟩
def dItS(t:TD):TDI:=λz R=>t z λy=>match y with| .str x=>x.cps.all (·<128)=true/\R (bP x)|_=>False
theorem jR{x:Str}{k c:Nat}(h:x.cps[k]?=some c):(bP x)[k]?=some (.str ⟨#[c]⟩):=by
 unfold bP
 rw[E8,Array.getElem?_toList,h]
 rfl
theorem gM(x:Str):(bP x).length=x.length:=by unfold bP;rw[E1];simp[Str.length]
variable {e_ iter:Expr}{x:Str}{px:Pos}{scope:Scope}{ti:TD}
theorem itS{K:Ex}:ItOk K (iStr (lE K ti)) (dItS ti):=λ{s H B F z P Q} kf rs h1 h2=>by
 refine⟨B,F,z,kf,rs,_,h1,λd v F1 H1 g1 hd rd=>?_⟩
 split at hd
 ·rename_i y
  obtain⟨ha,hd⟩:=hd
  have hl:=gM y
  refine⟨y,rep_str.mp rd,ha,h2 _ _ F1 H1 g1 hd ⟨λk F' H' G hk=>by rw[hl] at hk;exact hk,λk F' H' v H'' G hk hy=>?_,λF' H' G=>by show y.length<=_;rw[hl];exact ER _⟩⟩
  obtain⟨e,c,hc,rfl⟩:=hy
  exact⟨e,.str ⟨#[c]⟩,jR hc,rep_str.mpr rfl⟩
 ·exact hd.elim
end
section
variable {X:Cx}[J:Jx]{a b c e o:Expr}{es:List Expr}{ta tb tc te to:TD}{t:TDA}{pos:Pos}
abbrev RTx:=Str->List D->(D->Prop)->Prop
def dTx(r:RTx)(to:TD)(t:TDA):TD:=λz R=>to z λx=>match x with| .str y=>t z λds=>r y ds R|_=>False
def MtS(X:Cx)(id:String)(r:RTx):Prop:=∃ rv:V->List V->Hp->VK->Prop,MtR X id rv/\∀ (y:Str) (ds:List D) (vs:List V) (F H:Hp) (R:D->Prop) (Q:VK),Reps X.K F ds vs->r y ds R->(∀ d v,(∀ G,Rep X.K G d v)->R d->Q v H)->rv (.str y) vs H Q
theorem jS{name:Str}{id:String}{r:RTx}{apos cpos:Pos}(slot:Slot "str" name id)(LC:typeOf (.builtin id)=pure (.type "method_descriptor"))(hm:MtS X id r)(ho:DE X o to)(ha:DA X (e::es) t)
  (b9:attributeBase o name X.env (eval o X.env)=eval o X.env:=by rfl)
  (d9:zHF X cpos (e::es):=by rfl)
  (c7:(apos.endLine==cpos.line)=true:=by rfl) (hs:zSE X e es:=by rfl) (n4:zPL X cpos es:=by rfl):
  DE X (.Call (.Attribute o name apos) (e::es) [] cpos) (dTx r to t):=by
 obtain⟨rv,hm,L⟩:=hm
 refine(dX PySem.F.plainAttrs_str slot LC hm ho ha b9 d9 c7 hs n4).anti λs H Q q=>?_
 obtain⟨B,F,z,kf,rs,R,h1,h2⟩:=q
 refine⟨B,F,z,kf,rs,_,h1,λx u F1 H1 g1 hx rx=>?_⟩
 split at hx
 ·rename_i y
  rw[rep_str.mp rx]
  refine⟨rfl,B,F1,z,kf.grow g1,rs.grow g1,_,hx,λds vs F2 H2 g2 hy ry=>?_⟩
  exact L y ds vs F2 H2 R Q ry hy λd v rd hR=>h2 d v F2 H2 (g1.trans g2) hR (rd F2)
 ·exact hx.elim
def EO:RTx:=λy ds R=>match ds with|[.str p]=>R (.bl (Txt.startswith y p))|_=>False
def rEnds:RTx:=λy ds R=>match ds with|[.str p]=>R (.bl (Txt.endswith y p))|_=>False
theorem ms_ends:MtS X "str.endswith" rEnds:=by
 refine⟨λx vs H Q=>∃ y p,x= .str y/\vs=[.str p]/\Q (.bl (Txt.endswith y p)) H,?_,?_⟩
 ·intro pins s σ H x vs v us Q I rx rv h
  obtain⟨y,p,rfl,rfl,q⟩:=h
  obtain⟨t,rfl⟩:=rx
  obtain⟨u,rfl,t',rfl⟩:=bD rv
  exact SC.endswith ⟨.bl _,H,I,rfl,q⟩
 ·intro y ds vs F H R Q r h q
  unfold rEnds at h
  split at h
  ·obtain⟨v,vr,rfl,h1,h2⟩:=reps_cons.mp r
   rw[reps_nil.mp h2,rep_str.mp h1]
   exact⟨_,_,rfl,rfl,q _ _ (λ_=>rep_bl.mpr rfl) h⟩
  ·exact h.elim
theorem yV{apos cpos:Pos}(ho:WDE X o to)(ha:WDA X [e] t)(b9:attributeBase o "endswith" X.env (eval o X.env)=eval o X.env:=by rfl)
  (d9:zHF X cpos [e]:=by rfl)
  (c7:(apos.endLine==cpos.line)=true:=by rfl) (hs:zSE X e []:=by rfl):WDE X (.Call (.Attribute o "endswith" apos) [e] [] cpos) (dTx rEnds to t):=⟨have ho:=ho.out;have ha:=ha.out;jS PySem.F.slot_str_endswith PySem.F.type_str_endswith ms_ends ho ha b9 d9 c7 hs⟩
def rSIndex:RTx:=λy ds R=>match ds with|[.str p]=>∃ i rest,Builtin.Str.occurrences y p 0 y.length 1=i::rest/\R (.int (i:Nat))|_=>False
theorem yY:MtS X "str.index" rSIndex:=by
 refine⟨λx vs H Q=>∃ y p i rest,x= .str y/\vs=[.str p]/\Builtin.Str.occurrences y p 0 y.length 1=i::rest/\Q (.int (i:Nat)) H,?_,?_⟩
 ·intro pins s σ H x vs v us Q I rx rv h
  obtain⟨y,p,i,rest,rfl,rfl,ho,q⟩:=h
  obtain⟨t,rfl⟩:=rx
  obtain⟨u,rfl,t',rfl⟩:=bD rv
  exact SC.index ho ⟨.int _,H,I.tok _,⟨_,rfl⟩,q⟩
 ·intro y ds vs F H R Q r h q
  unfold rSIndex at h
  split at h
  ·obtain⟨i,rest,ho,h⟩:=h
   obtain⟨v,vr,rfl,h1,h2⟩:=reps_cons.mp r
   rw[reps_nil.mp h2,rep_str.mp h1]
   exact⟨_,_,i,rest,rfl,rfl,ho,q _ _ (λ_=>rep_int.mpr rfl) h⟩
  ·exact h.elim
theorem yZ{apos cpos:Pos}(ho:WDE X o to)(ha:WDA X [e] t)(b9:attributeBase o "index" X.env (eval o X.env)=eval o X.env:=by rfl)
  (d9:zHF X cpos [e]:=by rfl)
  (c7:(apos.endLine==cpos.line)=true:=by rfl) (hs:zSE X e []:=by rfl):WDE X (.Call (.Attribute o "index" apos) [e] [] cpos) (dTx rSIndex to t):=⟨have ho:=ho.out;have ha:=ha.out;jS PySem.F.slot_str_index PySem.F.type_str_index yY ho ha b9 d9 c7 hs⟩
theorem Reps.init{K:Ex}{F:Hp}:∀ {ds:List D} {vs:List V},Reps K F ds vs->Reps K F ds.dropLast vs.dropLast
 |[],vs,r=>by rw[reps_nil.mp r];exact reps_nil.mpr rfl
 |[d],vs,r=>by
  obtain⟨v,vr,rfl,_,h2⟩:=reps_cons.mp r
  rw[reps_nil.mp h2]
  exact reps_nil.mpr rfl
 |d::d2::ds,vs,r=>by
  obtain⟨v,vr,rfl,h1,h2⟩:=reps_cons.mp r
  obtain⟨v2,Qc,rfl,h3,h4⟩:=reps_cons.mp h2
  rw[HF,HF]
  exact reps_cons.mpr ⟨v,_,rfl,h1,Reps.init h2⟩
end
end My
namespace My
open Exc
section
variable {X:Cx}{a b c e:Expr}{ta tb tc te:TD}{pos:Pos}{st:Stmt}{rest:List Stmt}{t u:TSD}
theorem bg[Jx]{c:Expr}{l r:List Stmt}{tc:TDT}(hc:WDT X c tc)(ha:WDSs X l t)(hb:WDSs X r u):WDS X (.If c l r pos) (dIfS tc t u):=⟨qI (c:=c) (l:=l) (r:=r) (tc:=tc) (hc:=hc.out) (ha:=ha.out) (hb:=hb.out)⟩
end
section
variable {P:Program}{w:World}{K:Ex}{mg:Str->Option Value}{base:Heap}
theorem _root_.L2.Fun.okDW{x:Str}{st:Stmt}{f:Addr}{fd:FuncData}{N ps:List Str}{k:Nat}{S:SpD}(T:Fun K x x st f fd)(F:FnScope N ps (ag st))(len:∀ ds R,S ds R->ds.length=ps.length)
  (a_:∀ (cdv:Value) (A:Around) (outer:List Env) (s:Shared) (H:Hp) (E:XK) (J:Jx),Room k (A.deeper (envOfC x (ag st) s.heap.objs.size f cdv))->
   ∃ t,WDSs (cxOf (Exc.CX1 P w) P w K mg base N x (ag st) f cdv A outer s H E).nox (aH st) t/\∀ ds R,S ds R->t {nx:=λ_=>R .non,rt:=R} (startD N ds)):FnOk P w K mg base (Exc.CX1 P w) (k+1) f fd ps (lSp K S):=
 T.okD F len λcdv A outer s H E J hr=>let ⟨t,h,q⟩:=a_ cdv A outer s H E J hr;⟨t,h.out,q⟩
theorem Tx.okDW{x:Str}{st:Stmt}{N ps:List Str}{k:Nat}{S:SpD}(T:Tx K mg x st ps)(F:FnScope N ps (ag st))(len:∀ ds R,S ds R->ds.length=ps.length)
  (a_:∀ (f:Addr) (cdv:Value) (A:Around) (outer:List Env) (s:Shared) (H:Hp) (E:XK) (J:Jx),Room k (A.deeper (envOfC x (ag st) s.heap.objs.size f cdv))->
   ∃ t,WDSs (cxOf (Exc.CX1 P w) P w K mg base N x (ag st) f cdv A outer s H E).nox (aH st) t/\∀ ds R,S ds R->t {nx:=λ_=>R .non,rt:=R} (startD N ds)):CalD P w K mg base (k+1) x ps S:=
 Tx.okD T F len λf cdv A outer s H E J hr=>let ⟨t,h,q⟩:=a_ f cdv A outer s H E J hr;⟨t,h.out,q⟩
theorem Tx.okXW{x:Str}{st:Stmt}{N ps:List Str}{k:Nat}{S:SpX}(T:Tx K mg x st ps)(F:FnScope N ps (ag st))(len:∀ ds R RX,S ds R RX->ds.length=ps.length)
  (a_:∀ (f:Addr) (cdv:Value) (A:Around) (outer:List Env) (s:Shared) (H:Hp) (E:XK) (J:Jx),Room k (A.deeper (envOfC x (ag st) s.heap.objs.size f cdv))->XOk (cxOf (CX1 P w) P w K mg base N x (ag st) f cdv A outer s H E)->
   ∃ t,WDSs (cxOf (CX1 P w) P w K mg base N x (ag st) f cdv A outer s H E) (aH st) t/\∀ ds R RX,(∀ z,J.RX z=RX)->S ds R RX->t {nx:=λ_=>R .non,rt:=R} (startD N ds)):CalX P w K mg base (k+1) x ps S:=
 Tx.okX T F len λf cdv A outer s H E J hr hx=>let ⟨t,h,q⟩:=a_ f cdv A outer s H E J hr hx;⟨t,h.out,q⟩
theorem Cls.okIW{x qual:Str}{st:Stmt}{f C:Addr}{fd:FuncData}{N:List Str}{p0:Str}{ps:List Str}{k:Nat}{S:SiD}(T:Fun K "__init__" qual st f fd)(hb:Binds K fd (p0::ps) [])(F:FnScope (p0::N) (p0::ps) (ag st))(len:∀ ds R,S ds R->ds.length=ps.length)
  (hns:nsIn K mainGlobals x=some (some (.ref C))) (l9:mg x=some (.ref C)) (mk:Mk K C f)
  (a_:∀ (cdv:Value) (A:Around) (outer:List Env) (s:Shared) (H:Hp) (E:XK) (J:Jx),Room k (A.deeper (envOfC qual (ag st) s.heap.objs.size f cdv))->
   ∃ t,WDI (cxOf (Exc.CX1 P w) P w K mg base (p0::N) qual (ag st) f cdv A outer s H E).nox x (aH st) t/\∀ ds R,S ds R->t (none::startD N ds) [] R):CalM P w K mg base (k+1) x (p0::ps) S:=
 Cls.okI T hb F len hns l9 mk λcdv A outer s H E J hr=>let ⟨t,h,q⟩:=a_ cdv A outer s H E J hr;⟨t,h.out,q⟩
theorem Cls.okEW{x qual:Str}{st:Stmt}{f C N0:Addr}{bm:List Value}{fd:FuncData}{N:List Str}{p0:Str}{ps:List Str}{k:Nat}{S:SiD}(T:Fun K "__init__" qual st f fd)(hb:Binds K fd (p0::ps) [])(F:FnScope (p0::N) (p0::ps) (ag st))(len:∀ ds R,S ds R->ds.length=ps.length)
  (ek:ErrK K mg x C N0 bm) (hi:EZ K (.ref C) "__init__"=some (some (.ref f))) (hf:isFn K (.ref f)=true)
  (a_:∀ (cdv:Value) (A:Around) (outer:List Env) (s:Shared) (H:Hp) (E:XK) (J:Jx),Room k (A.deeper (envOfC qual (ag st) s.heap.objs.size f cdv))->
   ∃ t,WDX (cxOf (CX1 P w) P w K mg base (p0::N) qual (ag st) f cdv A outer s H E).nox x (aH st) t/\∀ ds R,S ds R->t (none::startD N ds) [] R):CalE P w K mg base (k+1) x (p0::ps) S:=
 Cls.okE T hb F len ek hi hf λcdv A outer s H E J hr=>let ⟨t,h,q⟩:=a_ cdv A outer s H E J hr;⟨t,h.out,q⟩
end
inductive MO where
 |ins (x:Str) (fs:List (Str × D))|lst (ds:List D)|dti (a8:List ((Int × Int) × Int))
abbrev MS:=List (Addr × MO)
def MRep(K:Ex)(F H:Hp)(a:Addr):MO->Prop
 | .ins x fs=>∃ C dx ws,nsIn K mainGlobals x=some (some (.ref C))/\H a=some (.ins C dx ws)/\RepF K F fs ws
 | .lst ds=>∃ vs,H a=some (.lst vs)/\Reps K F ds vs
 | .dti a8=>H a=some (.dT (dtiV a8))
def aw(M:MS):List Addr:=M.map (·.1)
def mget:MS->Addr->Option MO
 |[],_=>none
 |(b,o)::r,a=>if b=a then some o else mget r a
def mput:MS->Addr->MO->MS
 |[],_,_=>[]
 |(b,p)::r,a,o=>if b=a then(b,o)::r else(b,p)::mput r a o
def mdel:MS->Addr->MS
 |[],_=>[]
 |(b,p)::r,a=>if b=a then r else(b,p)::mdel r a
theorem bL:∀ {M:MS} {a:Addr} {o:MO},mget M a=some o->(a,o)∈M
 |[],_,_,h=>by cases h
 |(b,p)::r,a,o,h=>by
  unfold mget at h
  split at h
  ·rename_i e;subst e;cases h;exact EY
  ·exact EV _ (bL h)
theorem cj{M:MS}{a:Addr}{o:MO}(h:(a,o)∈M):a∈aw M:=Fq.mpr ⟨_,h,rfl⟩
theorem gN:∀ (M:MS) (a:Addr) (o:MO),aw (mput M a o)=aw M
 |[],_,_=>rfl
 |(b,p)::r,a,o=>by
  unfold mput
  split
  ·rfl
  ·show b::aw (mput r a o)=b::aw r
   rw[gN r a o]
theorem mem_put:∀ {M:MS} {a b:Addr} {o q:MO},(aw M).Nodup->(b,q)∈mput M a o->(b=a/\q=o/\a∈aw M)\/(b≠a/\(b,q)∈M)
 |[],_,_,_,_,_,h=>by cases h
 |(c,p)::r,a,b,o,q,nd,h=>by
  have Kj:c ∉ aw r/\(aw r).Nodup:=FK.mp nd
  unfold mput at h
  split at h
  ·rename_i e
   subst e
   rcases EU.mp h with z|z
   ·cases z;exact .inl ⟨rfl,rfl,EY⟩
   ·have:b∈aw r:=cj z
    exact .inr ⟨λe=>Kj.1 (e ▸ this),EV _ z⟩
  ·rename_i ne
   rcases EU.mp h with z|z
   ·cases z;exact .inr ⟨ne,EY⟩
   ·rcases mem_put Kj.2 z with⟨e1,e2,e3⟩|⟨e1,e2⟩
    ·exact .inl ⟨e1,e2,EV _ e3⟩
    ·exact .inr ⟨e1,EV _ e2⟩
theorem jT:∀ {M:MS} {a b:Addr} {q:MO},(aw M).Nodup->(b,q)∈mdel M a->b≠a/\(b,q)∈M
 |[],_,_,_,_,h=>by cases h
 |(c,p)::r,a,b,q,nd,h=>by
  have Kj:c ∉ aw r/\(aw r).Nodup:=FK.mp nd
  unfold mdel at h
  split at h
  ·rename_i e
   subst e
   exact⟨λe=>Kj.1 (e ▸ cj h),EV _ h⟩
  ·rename_i ne
   rcases EU.mp h with z|z
   ·cases z;exact⟨ne,EY⟩
   ·obtain⟨e1,e2⟩:=jT Kj.2 z
    exact⟨e1,EV _ e2⟩
theorem del_sub:∀ {M:MS} {a:Addr},(aw (mdel M a)).Sublist (aw M)
 |[],_=> .slnil
 |(c,p)::r,a=>by
  unfold mdel
  split
  ·exact List.sublist_cons_self _ _
  ·exact List.Sublist.cons_cons _ del_sub
theorem MRep.mono{K:Ex}{F H F' H':Hp}{a:Addr}(ff:Same F F')(hh:∀ o,H a=some o->H' a=some o):∀ {o:MO},MRep K F H a o->MRep K F' H' a o
 | .ins x fs,⟨C,dx,ws,n,h,r⟩=>⟨C,dx,ws,n,hh _ h,RepF.mono ff fs ws r⟩
 | .lst ds,⟨vs,h,r⟩=>⟨vs,hh _ h,Reps.mono ff ds vs r⟩
 | .dti a8,h=>hh _ h
theorem MRep.there{K:Ex}{F H:Hp}{a:Addr}:∀ {o:MO},MRep K F H a o->H a≠none
 | .ins x fs,⟨C,dx,ws,n,h,r⟩=>by rw[h];exact λz=>nomatch z
 | .lst ds,⟨vs,h,r⟩=>by rw[h];exact λz=>nomatch z
 | .dti a8,h=>by rw[show H a=_ from h];exact λz=>nomatch z
structure RepM(K:Ex)(F H:Hp)(M:MS):Prop where
 nd:(aw M).Nodup
 ok:∀ a o,(a,o)∈M->MRep K F H a o
 fr:∀ a,a∈aw M->F a=none
theorem RepM.nil{K:Ex}{F H:Hp}:RepM K F H []:=⟨Hx,(λ_ _ h=>nomatch h),(λ_ h=>nomatch h)⟩
theorem RepM.here{K:Ex}{F H:Hp}{M:MS}(r:RepM K F H M){a:Addr}(h:a∈aw M):H a≠none:=by
 obtain⟨⟨b,o⟩,h1,rfl⟩:=Fq.mp h
 exact(r.ok _ _ h1).there
structure GrowM(M M':MS)(F H F' H':Hp):Prop where
 ff:Same F F'
 fh:Same F' H'
 hh:∀ b o,b ∉ aw M->H b=some o->H' b=some o
 out:∀ b,b ∉ aw M->F b=none->H b≠none->F' b=none
 ks:∀ b,b∈aw M'->b∈aw M\/H b=none
theorem Grow.toM{M:MS}{F H F' H':Hp}(g:Grow F H F' H'):GrowM M M F H F' H':=⟨g.ff,g.fh,λb o _ h=>g.hh b o h,λb _ h1 h2=>g.out b h1 h2,λb h=> .inl h⟩
theorem GrowM.refl{M:MS}{F H:Hp}(h:Same F H):GrowM M M F H F H:=(Grow.refl h).toM
theorem GrowM.trans{M M1 M2:MS}{F H F1 H1 F2 H2:Hp}(g:GrowM M M1 F H F1 H1)(k:GrowM M1 M2 F1 H1 F2 H2):GrowM M M2 F H F2 H2 where
  ff:=g.ff.trans k.ff
  fh:=k.fh
  hh:=λb o nb h=>k.hh b o (λz=>by rcases g.ks b z with q|q;exact nb q;rw[q] at h;cases h) (g.hh b o nb h)
  out:=λb nb h1 h2=>k.out b (λz=>by rcases g.ks b z with q|q;exact nb q;exact h2 q) (g.out b nb h1 h2) (by
    cases e:H b with
    |none=>exact absurd e h2
    |some o=>rw[g.hh b o nb e];exact λz=>nomatch z)
  ks := λb h=>by
    rcases k.ks b h with q|q
    · exact g.ks b q
    · by_cases nb:b∈aw M
      · exact .inl nb
      · right
        cases e:H b with
        |none=>rfl
        |some o=>rw[g.hh b o nb e] at q;cases q
theorem RepM.grow{K:Ex}{F H F' H':Hp}{M:MS}(r:RepM K F H M)(g:Grow F H F' H'):RepM K F' H' M:=
 ⟨r.nd,λa o h=>(r.ok a o h).mono g.ff λo e=>g.hh a o e,λa h=>g.out a (r.fr a h) (r.here h)⟩
theorem RepM.put{K:Ex}{F H:Hp}{M:MS}{a:Addr}{o o':MO}{ho:HO}(r:RepM K F H M)(e:mget M a=some o)(h:MRep K F (upd H a ho) a o'):RepM K F (upd H a ho) (mput M a o'):=
 ⟨by rw[gN];exact r.nd,λb q hb=>by
  rcases mem_put r.nd hb with⟨rfl,rfl,_⟩|⟨ne,hb⟩
  ·exact h
  ·exact(r.ok b q hb).mono (Same.refl F) λu z=>by rw[ao ne];exact z,λb hb=>r.fr b (by rw[gN] at hb;exact hb)⟩
theorem GrowM.put{F H:Hp}{M:MS}{a:Addr}{o o':MO}{ho:HO}(fh:Same F H)(fa:F a=none)(e:mget M a=some o):GrowM M (mput M a o') F H F (upd H a ho) where
 ff:=Same.refl F
 fh:=λb u z=>by
  have ne:b≠a:=by rintro rfl;rw[fa] at z;cases z
  rw[ao ne];exact fh b u z
 hh:=λb u nb z=>by
  have ne:b≠a:=by rintro rfl;exact nb (cj (bL e))
  rw[ao ne];exact z
 out:=λb _ h _=>h
 ks:=λb h=> .inl (by rw[gN] at h;exact h)
theorem RepM.new{K:Ex}{F H:Hp}{M:MS}{p:Addr}{o:MO}{ho:HO}(r:RepM K F H M)(fh:Same F H)(hp:H p=none)(h:MRep K F (upd H p ho) p o):RepM K F (upd H p ho) ((p,o)::M):=by
 have np:p ∉ aw M:=λz=>r.here z hp
 refine⟨FK.mpr ⟨np,r.nd⟩,λb q hb=>?_,λb hb=>?_⟩
 ·rcases EU.mp hb with z|z
  ·cases z;exact h
  ·exact(r.ok b q z).mono (Same.refl F) λu z'=>by rw[ao (λe:b=p=>np (e ▸ cj z))];exact z'
 ·rcases EU.mp hb with z|z
  ·rw[z];exact fh.free hp
  ·exact r.fr b z
theorem GrowM.new{F H:Hp}{M:MS}{p:Addr}{o:MO}{ho:HO}(fh:Same F H)(hp:H p=none):GrowM M ((p,o)::M) F H F (upd H p ho) where
 ff:=Same.refl F
 fh:=fh.trans (aQ hp _)
 hh:=λb u _ z=>aQ hp _ b u z
 out:=λb _ h _=>h
 ks:=λb h=>by
  rcases EU.mp h with z|z
  ·exact .inr (by rw[z];exact hp)
  ·exact .inl z
structure RepZ(K:Ex)(B F H:Hp)(z:SD)(s:L2.St)(M:MS):Prop where
 rs:RepS K B F H z s
 no:∀ (i:Nat) ds,z[i]?≠some (some (.own ds))
 rm:RepM K F H M
 mb:∀ a,a∈aw M->B a=none
theorem Kept.growM[Jx]{B F0 F H F' H':Hp}{M M':MS}(k:Kept B F0 F H)(mb:∀ a,a∈aw M->B a=none)(g:GrowM M M' F H F' H'):Kept B F0 F' H' where
 bh:=λb o e=>g.hh b o (λz=>by rw[mb b z] at e;cases e) (k.bh b o e)
 fh:=g.fh
 f0:=k.f0.trans g.ff
 out:=λb h1 h2=>g.out b (λz=>h2 (mb b z)) (k.out b h1 h2) (by
  cases e:B b with
  |none=>exact absurd e h2
  |some o=>rw[k.bh b o e];exact λz=>nomatch z)
 eb:=k.eb
 jf:=k.jf
 jo:=k.jo
theorem RepS.growM{K:Ex}{B F H F' H':Hp}{z:SD}{s:L2.St}{M M':MS}(r:RepS K B F H z s)(no:∀ (i:Nat) ds,z[i]?≠some (some (.own ds)))(g:GrowM M M' F H F' H'):RepS K B F' H' z s where
 len:=r.len
 val:=λi d e n=>let ⟨v,q1,q2⟩:=r.val i d e n;⟨v,q1,q2.mono g.ff⟩
 own:=λi ds e=>absurd e (no i ds)
 apart:=r.apart
theorem RepZ.growM{K:Ex}{B F H F' H':Hp}{z:SD}{s:L2.St}{M M':MS}(r:RepZ K B F H z s M)(bh:Same B H)(g:GrowM M M' F H F' H')(rm:RepM K F' H' M'):RepZ K B F' H' z s M':=
 ⟨r.rs.growM r.no g,r.no,rm,λa h=>by
  rcases g.ks a h with q|q
  ·exact r.mb a q
  ·exact bh.free q⟩
theorem RepZ.set{K:Ex}{B F H:Hp}{z:SD}{s:L2.St}{M:MS}{i:Nat}{d:D}{v:V}(r:RepZ K B F H z s M)(rd:Rep K F d v):RepZ K B F H (z.set i (some d)) (s.set i (some v)) M:=
 ⟨r.rs.set rd,λj ds e=>by
  by_cases hj:i=j
  ·subst hj
   rw[Ga] at e
   simp at e
   have:=rd.noown
   rw[e.2] at this
   cases this
  ·rw[Ff hj] at e
   exact r.no j ds e,r.rm,r.mb⟩
class Jm extends Jx where
 RM:SD->MS->XD
abbrev TME:=SD->MS->(D->MS->Prop)->Prop
abbrev TMT:=SD->MS->(Bool->MS->Prop)->Prop
abbrev TMA:=SD->MS->(List D->MS->Prop)->Prop
structure EndsM where
 nx:SD->MS->Prop
 rt:D->MS->Prop
 bk:SD->MS->Prop:=λ_ _=>False
 ct:SD->MS->Prop:=λ_ _=>False
abbrev TMS:=EndsM->SD->MS->Prop
def mE(K:Ex)[J:Jm](t:TME):TE:=λs H Q=>∃ F z M,Kept J.B J.F0 F H/\RepZ K J.B F H z s M/\∃ R:D->MS->Prop,t z M R/\∀ d v M' F' H',GrowM M M' F H F' H'->R d M'->Rep K F' d v->RepM K F' H' M'->Q v H'
def mT(K:Ex)[J:Jm](t:TMT):TT:=λs H Q=>∃ F z M,Kept J.B J.F0 F H/\RepZ K J.B F H z s M/\∃ R:Bool->MS->Prop,t z M R/\∀ b M' F' H',GrowM M M' F H F' H'->R b M'->RepM K F' H' M'->Q b H'
def mA(K:Ex)[J:Jm](t:TMA):TA:=λs H Q=>∃ F z M,Kept J.B J.F0 F H/\RepZ K J.B F H z s M/\∃ R:List D->MS->Prop,t z M R/\∀ ds vs M' F' H',GrowM M M' F H F' H'->R ds M'->Reps K F' ds vs->RepM K F' H' M'->Q vs H'
structure EndsOkM[J:Jm](K:Ex)(F0:Hp)(ED:EndsM)(E:Ends):Prop where
 nx:∀ z' s' M' F' H',Kept J.B F0 F' H'->ED.nx z' M'->RepZ K J.B F' H' z' s' M'->E.nx s' H'
 rt:∀ d v M' F' H',Kept J.B F0 F' H'->ED.rt d M'->Rep K F' d v->RepM K F' H' M'->(∀ a,a∈aw M'->J.B a=none)->E.rt v H'
 bk:∀ z' s' M' F' H',Kept J.B F0 F' H'->ED.bk z' M'->RepZ K J.B F' H' z' s' M'->E.bk s' H'
 ct:∀ z' s' M' F' H',Kept J.B F0 F' H'->ED.ct z' M'->RepZ K J.B F' H' z' s' M'->E.ct s' H'
def mS(K:Ex)[J:Jm](t:TMS):TS:=λE s H=>∃ F0 F z M,Kept J.B F0 F H/\RepZ K J.B F H z s M/\∃ ED:EndsM,t ED z M/\EndsOkM K F0 ED E
structure ME(X:Cx)[Jm](e:Expr)(t:TME):Prop where
 out:PE X e (mE X.K t)
structure MT(X:Cx)[Jm](e:Expr)(t:TMT):Prop where
 out:PT X e (mT X.K t)
structure MW(X:Cx)[Jm](e:Expr)(t:TMT):Prop where
 out:PW X e (mT X.K t)
structure MA(X:Cx)[Jm](es:List Expr)(t:TMA):Prop where
 out:PA X es (mA X.K t)
structure MSt(X:Cx)[Jm](st:Stmt)(t:TMS):Prop where
 out:PS X st (mS X.K t)
structure MSs(X:Cx)[Jm](st:List Stmt)(t:TMS):Prop where
 out:PSs X st (mS X.K t)
section
variable {X:Cx}{a b c e:Expr}{ta tb:TME}{pos:Pos}
def mP(t:TD):TME:=λz M R=>t z λd=>R d M
def mPT(t:TDT):TMT:=λz M R=>t z λd=>R d M
def mPA(t:TDA):TMA:=λz M R=>t z λd=>R d M
theorem aj[J:Jm]{t:TD}(h:WDE X e t):ME X e (mP t):=⟨PE.anti h.out λs H Q q=>by
 obtain⟨F,z,M,k,r,R,h1,h2⟩:=q
 exact⟨J.B,F,z,k,r.rs,_,h1,λd v F' H' g hd rd=>h2 d v M F' H' g.toM hd rd (r.rm.grow g)⟩⟩
theorem ca[J:Jm]{t:TDT}(h:WDT X e t):MT X e (mPT t):=⟨PT.anti h.out λs H Q q=>by
 obtain⟨F,z,M,k,r,R,h1,h2⟩:=q
 exact⟨J.B,F,z,k,r.rs,_,h1,λd F' H' g hd=>h2 d M F' H' g.toM hd (r.rm.grow g)⟩⟩
theorem aD[J:Jm]{es:List Expr}{t:TDA}(h:WDA X es t):MA X es (mPA t):=⟨PA.anti h.out λs H Q q=>by
 obtain⟨F,z,M,k,r,R,h1,h2⟩:=q
 exact⟨J.B,F,z,k,r.rs,_,h1,λd v F' H' g hd rd=>h2 d v M F' H' g.toM hd rd (r.rm.grow g)⟩⟩
def mOp(r:RD2)(ta tb:TME):TME:=λz M R=>ta z M λx M1=>tb z M1 λy M2=>r x y λd=>R d M2
theorem rz[J:Jm]{e:Expr}{r:R2}{rd:RD2}{ta tb:TME}(L:aU X.K r rd)(h:PE X e (tOp r (mE X.K ta) (mE X.K tb))):ME X e (mOp rd ta tb):=⟨h.anti λs H Q q=>by
 obtain⟨F,z,M,k,rs,R,h1,h2⟩:=q
 refine⟨F,z,M,k,rs,_,h1,λx u M1 F1 H1 g1 hx rx m1=>?_⟩
 refine⟨F1,z,M1,k.growM rs.mb g1,rs.growM k.bh g1 m1,_,hx,λy v M2 F2 H2 g2 hy ry m2=>?_⟩
 exact L x y u v F2 H2 _ Q g2.fh hy (rx.mono g2.ff) ry λd w F3 H3 g3 hd rd=>h2 d w M2 F3 H3 ((g1.trans g2).trans g3.toM) hd rd (m2.grow g3)⟩
theorem rA[J:Jm]{op:Operator}{r:R2}{rd:RD2}(ho:OpR X (binaryOp op) r)(L:aU X.K r rd)(ha:ME X a ta)(hb:ME X b tb):ME X (.BinOp a op b pos) (mOp rd ta tb):=rz L (pq ho ha.out hb.out)
theorem rB[J:Jm](ha:ME X a ta)(hb:ME X b tb)(hs:dW b:=by exact λ_ _=>rfl):ME X (.Subscript a b pos) (mOp rdIx ta tb):=rz qz (pe_ix pZ ha.out hb.out hs)
theorem gO[Jm](ha:ME X a ta)(hb:ME X b tb):ME X (.BinOp a .Add b pos) (mOp rdAdd ta tb):=rA qp qq ha hb
theorem jU[Jm](ha:ME X a ta)(hb:ME X b tb):ME X (.BinOp a .Sub b pos) (mOp rdSub ta tb):=rA pv qr ha hb
def mTst(t:TME):TMT:=λz M R=>t z M λx M1=>match x with| .bl k=>R k M1|_=>False
theorem gP[J:Jm]{op:CmpOp}{r:R2}{rd:RD2}(ho:OpR X (compareOp op) r)(L:aU X.K r rd)(ha:ME X a ta)(hb:ME X b tb)(hm:behindInMarks op b=false):MT X (.Compare a [op] [b] pos) (mTst (mOp rd ta tb)):=⟨(pF ho ha.out hb.out hm).anti λs H Q q=>by
 obtain⟨F,z,M,k,rs,R,h1,h2⟩:=q
 refine⟨F,z,M,k,rs,_,h1,λx u M1 F1 H1 g1 hx rx m1=>?_⟩
 refine⟨F1,z,M1,k.growM rs.mb g1,rs.growM k.bh g1 m1,_,hx,λy v M2 F2 H2 g2 hy ry m2=>?_⟩
 refine L x y u v F2 H2 _ _ g2.fh hy (rx.mono g2.ff) ry λd w F3 H3 g3 hd rd=>?_
 dsimp only at hd
 split at hd
 ·exact⟨_,rep_bl.mp rd,h2 _ M2 F3 H3 ((g1.trans g2).trans g3.toM) hd (m2.grow g3)⟩
 ·exact hd.elim⟩
theorem rC[Jm](ha:ME X a ta)(hb:ME X b tb):MT X (.Compare a [.Lt] [b] pos) (mTst (mOp rdLt ta tb)):=gP jw jG ha hb (nomark _)
theorem gQ[Jm](ha:ME X a ta)(hb:ME X b tb):MT X (.Compare a [.Eq] [b] pos) (mTst (mOp rdEq ta tb)):=gP jv jH ha hb (nomark _)
theorem rD[Jm](ha:ME X a ta)(hb:ME X b tb):MT X (.Compare a [.Is] [b] pos) (mTst (mOp (rdIs id) ta tb)):=gP pD qy ha hb (nomark _)
theorem za[Jm](ha:ME X a ta)(hb:ME X b tb)(hm:behindInMarks .NotIn b=false:=by rfl):MT X (.Compare a [.NotIn] [b] pos) (mTst (mOp (rdIn true) ta tb)):=gP yR yQ ha hb hm
variable {tA tB:TMT}{rest:List Expr}
theorem mt_w[Jm](h:MW X a tA):MT X a tA:=⟨PW.pt h.out⟩
theorem zb[Jm](ha:MT X a tA):MW X (.BoolOp .And [a] pos) tA:=⟨oS ha.out⟩
theorem zc[Jm](ha:MT X a tA):MW X (.BoolOp .Or [a] pos) tA:=⟨oU ha.out⟩
def mAnd(tA tB:TMT):TMT:=λz M R=>tA z M λk M1=>if k=true then tB z M1 R else R false M1
def mOr(tA tB:TMT):TMT:=λz M R=>tA z M λk M1=>if k=true then R true M1 else tB z M1 R
theorem zd[J:Jm](ha:MT X a tA)(hb:MW X (.BoolOp .And (b::rest) pos) tB):MW X (.BoolOp .And (a::b::rest) pos) (mAnd tA tB):=⟨(oV ha.out hb.out).anti λs H Q q=>by
 obtain⟨F,z,M,k,rs,R,h1,h2⟩:=q
 refine⟨F,z,M,k,rs,_,h1,λx M1 F1 H1 g1 hx m1=>?_⟩
 cases x with
 |true=>exact⟨F1,z,M1,k.growM rs.mb g1,rs.growM k.bh g1 m1,R,hx,λy M2 F2 H2 g2 hy m2=>h2 y M2 F2 H2 (g1.trans g2) hy m2⟩
 |false=>exact h2 _ M1 F1 H1 g1 hx m1⟩
theorem ze[J:Jm](ha:MT X a tA)(hb:MW X (.BoolOp .Or (b::rest) pos) tB):MW X (.BoolOp .Or (a::b::rest) pos) (mOr tA tB):=⟨(oW ha.out hb.out).anti λs H Q q=>by
 obtain⟨F,z,M,k,rs,R,h1,h2⟩:=q
 refine⟨F,z,M,k,rs,_,h1,λx M1 F1 H1 g1 hx m1=>?_⟩
 cases x with
 |false=>exact⟨F1,z,M1,k.growM rs.mb g1,rs.growM k.bh g1 m1,R,hx,λy M2 F2 H2 g2 hy m2=>h2 y M2 F2 H2 (g1.trans g2) hy m2⟩
 |true=>exact h2 _ M1 F1 H1 g1 hx m1⟩
def mIf(tc:TMT)(ta tb:TME):TME:=λz M R=>tc z M λk M1=>if k=true then ta z M1 R else tb z M1 R
theorem fJ[J:Jm]{tc:TMT}(hc:MT X c tc)(ha:ME X a ta)(hb:ME X b tb):ME X (.IfExp c a b pos) (mIf tc ta tb):=⟨(oX hc.out ha.out hb.out).anti λs H Q q=>by
 obtain⟨F,z,M,k,rs,R,h1,h2⟩:=q
 refine⟨F,z,M,k,rs,_,h1,λx M1 F1 H1 g1 hx m1=>?_⟩
 cases x with
 |true=>exact⟨F1,z,M1,k.growM rs.mb g1,rs.growM k.bh g1 m1,R,hx,λd v M2 F2 H2 g2 hy rd m2=>h2 d v M2 F2 H2 (g1.trans g2) hy rd m2⟩
 |false=>exact⟨F1,z,M1,k.growM rs.mb g1,rs.growM k.bh g1 m1,R,hx,λd v M2 F2 H2 g2 hy rd m2=>h2 d v M2 F2 H2 (g1.trans g2) hy rd m2⟩⟩
def mNil:TMA:=λ_ M R=>R [] M
def zf(ta:TME)(tr:TMA):TMA:=λz M R=>ta z M λx M1=>tr z M1 λxs M2=>R (x::xs) M2
theorem bo[J:Jm]:MA X [] mNil:=⟨pa_nil.anti λs H Q q=>by
 obtain⟨F,z,M,k,rs,R,h1,h2⟩:=q
 exact h2 [] [] M F H (GrowM.refl k.fh) h1 (reps_nil.mpr rfl) rs.rm⟩
theorem aR[J:Jm]{e:Expr}{es:List Expr}{te:TME}{t:TMA}(ha:ME X e te)(hr:MA X es t)(hs:zSE X e es:=by rfl):MA X (e::es) (zf te t):=⟨(bj ha.out hr.out hs).anti λs H Q q=>by
 obtain⟨F,z,M,k,rs,R,h1,h2⟩:=q
 refine⟨F,z,M,k,rs,_,h1,λx u M1 F1 H1 g1 hx rx m1=>?_⟩
 refine⟨F1,z,M1,k.growM rs.mb g1,rs.growM k.bh g1 m1,_,hx,λxs us M2 F2 H2 g2 hy ry m2=>?_⟩
 exact h2 _ _ M2 F2 H2 (g1.trans g2) hy (reps_cons.mpr ⟨_,_,rfl,rx.mono g2.ff,ry⟩) m2⟩
def mTup(t:TMA):TME:=λz M R=>t z M λxs M1=>xs.length<=1000/\R (.tup xs) M1
theorem zg[J:Jm]{es:List Expr}{t:TMA}{x1}(h:MA X es t):ME X (.Tuple es x1 pos) (mTup t):=⟨(pL h.out).anti λs H Q q=>by
 obtain⟨F,z,M,k,rs,R,h1,h2⟩:=q
 refine⟨F,z,M,k,rs,_,h1,λds vs M1 F1 H1 g1 hx rx m1=>?_⟩
 have hl:=rx.length
 refine⟨sz (by rw[hl];exact hx.1),λp hp=>?_⟩
 have gn:=Grow.new g1.fh hp (.tup vs)
 exact h2 _ _ M1 _ _ (g1.trans gn.toM) hx.2 (rep_tupS.mpr ⟨p,vs,rfl,az,rx.mono (aQ (g1.fh.free hp) _)⟩) (m1.grow gn)⟩
def mLst(t:TMA):TME:=λz M R=>t z M λxs M1=>xs.length<=1000/\∀ p,p ∉ aw M1->R (.ptr p) ((p,.lst xs)::M1)
theorem zh[J:Jm]{es:List Expr}{t:TMA}(h:MA X es t):ME X (.List es pos) (mLst t):=⟨(jz h.out).anti λs H Q q=>by
 obtain⟨F,z,M,k,rs,R,h1,h2⟩:=q
 refine⟨F,z,M,k,rs,_,h1,λds vs M1 F1 H1 g1 hx rx m1=>?_⟩
 have hl:=rx.length
 refine⟨sz (by rw[hl];exact hx.1),λp hp=>?_⟩
 exact h2 _ _ _ F1 _ (g1.trans (GrowM.new g1.fh hp)) (hx.2 p λz=>m1.here z hp) (rep_ptr.mpr rfl) (m1.new g1.fh hp ⟨vs,az,rx⟩)⟩
def mCB(r:RDn)(t:TMA):TME:=λz M R=>t z M λds M1=>r ds λd=>R d M1
theorem zi[J:Jm]{x:Str}{p:Pos}{e:Expr}{es:List Expr}{t:TMA}{id:String}{r:List V->Hp->VK->Prop}{rd:RDn}(hc:bw X (.builtin id) r)(L:bO X.K r rd)(hm:X.mg x=none)(hv:bootBuiltins x=some (.builtin id))(ha:MA X (e::es) t)(hg:Gl X x:=by rfl)(hn:x≠"__name__":=by decide)(d7:zND x:=by decide)
  (he:zSE X e es:=by rfl) (b_:zPL X pos es:=by rfl):ME X (.Call (.Name x p) (e::es) [] pos) (mCB rd t):=⟨(fZ hc hg hm hv ha.out hn d7 he b_).anti λs H Q h=>by
 obtain⟨F,z,M,k,rs,R,h1,h2⟩:=h
 refine⟨F,z,M,k,rs,_,h1,λds vs M1 F1 H1 g1 hx rx m1=>?_⟩
 exact L ds vs F1 H1 _ Q g1.fh hx rx λd w F' H' g hd rd=>h2 d w M1 F' H' (g1.trans g.toM) hd rd (m1.grow g)⟩
theorem rE[Jm]{p:Pos}{e:Expr}{t:TMA}(hm:X.mg "len"=none)(ha:MA X [e] t)(hg:Gl X "len":=by rfl)(he:zSE X e []:=by rfl):ME X (.Call (.Name "len" p) [e] [] pos) (mCB rdLen t):=zi jx qB hm PySem.boot_len ha hg (by decide) (by decide) he
theorem zj[J:Jm]{x:Str}{p:Pos}{e:Expr}{es:List Expr}{t:TMA}{T:String}{r:List V->Hp->VK->Prop}{rd:RDn}(hc:bw X (.type T) r)(L:bO X.K r rd)(hm:X.mg x=none)(hv:bootBuiltins x=some (.type T))(ha:MA X (e::es) t)(hg:Gl X x:=by rfl)(hn:x≠"__name__":=by decide)(d7:zND x:=by decide)
  (he:zSE X e es:=by rfl) (b_:zPL X pos es:=by rfl):ME X (.Call (.Name x p) (e::es) [] pos) (mCB rd t):=⟨(pQ hc hg hm hv ha.out hn d7 he b_).anti λs H Q h=>by
 obtain⟨F,z,M,k,rs,R,h1,h2⟩:=h
 refine⟨F,z,M,k,rs,_,h1,λds vs M1 F1 H1 g1 hx rx m1=>?_⟩
 exact L ds vs F1 H1 _ Q g1.fh hx rx λd w F' H' g hd rd=>h2 d w M1 F' H' (g1.trans g.toM) hd rd (m1.grow g)⟩
theorem rF[Jm]{p:Pos}{t:TMA}(hm:X.mg "int"=none)(ha:MA X [e] t)(hg:Gl X "int":=by rfl)(he:zSE X e []:=by rfl):ME X (.Call (.Name "int" p) [e] [] pos) (mCB rdInt t):=zj qK qL hm PyProof.Rows.boot_int ha hg (by decide) (by decide) he
def eI(M:MS)(d:D)(x:Str)(fs:List (Str × D)):Prop:=match d with| .ptr a=>mget M a=some (.ins x fs)| .obj y gs=>y=x/\gs=fs|_=>False
def mFld(x f:Str)(te:TME):TME:=λz M R=>te z M λd M1=>∃ fs,eI M1 d x fs/\∃ d',fs.lookup f=some d'/\R d' M1
theorem jV{K:Ex}{F H:Hp}{M:MS}{d:D}{v:V}{x:Str}{fs:List (Str × D)}(fh:Same F H)(rm:RepM K F H M)(rd:Rep K F d v)(h:eI M d x fs):∃ a C dx ws,v= .ref a/\nsIn K mainGlobals x=some (some (.ref C))/\H a=some (.ins C dx ws)/\RepF K F fs ws:=by
 unfold eI at h
 split at h
 ·rename_i a
  obtain⟨C,dx,ws,n,h1,h2⟩:=rm.ok _ _ (bL h)
  exact⟨a,C,dx,ws,rep_ptr.mp rd,n,h1,h2⟩
 ·obtain⟨rfl,rfl⟩:=h
  obtain⟨a,C,dx,ws,e,n,h1,h2⟩:=rep_obj.mp rd
  exact⟨a,C,dx,ws,e,n,fh _ _ h1,h2⟩
 ·exact h.elim
theorem aL[J:Jm]{x f:Str}(hA:ClsA X.K x f)(he:ME X e ta)(hb:attributeBase e f X.env (eval e X.env)=eval e X.env:=by rfl):ME X (.Attribute e f pos) (mFld x f ta):=⟨(pJ he.out hb).anti λs H Q q=>by
 obtain⟨C,hn,hc,hf⟩:=hA
 obtain⟨F,z,M,k,rs,R,h1,h2⟩:=q
 refine⟨F,z,M,k,rs,_,h1,λd u M1 F1 H1 g1 hx rx m1=>?_⟩
 obtain⟨fs,hi,d',hl,hR⟩:=hx
 obtain⟨a,C',dx,ws,rfl,k8,hH,rf⟩:=jV g1.fh m1 rx hi
 rw[hn] at k8
 cases k8
 obtain⟨v,l,rv⟩:=rf.look hl
 exact⟨a,C,dx,ws,v,rfl,hH,hc,hf,l,h2 d' v M1 F1 H1 g1 hR rv m1⟩⟩
end
abbrev XDM:=Str->List (Str × D)->MS->Prop
abbrev SpM:=List D->MS->(D->MS->Prop)->XDM->Prop
def lSpM(K:Ex)(S:SpM):Sp:=λvs H Q E=>∃ F ds M,Same F H/\Reps K F ds vs/\RepM K F H M/\∃ (R:D->MS->Prop) (RX:XDM),S ds M R RX/\(∀ d v M' F' H',GrowM M M' F H F' H'->R d M'->Rep K F' d v->RepM K F' H' M'->Q v H')/\
 ∀ x fs C od M' F' H',GrowM M M' F H F' H'->RX x fs M'->ErrD K F' x fs C od->RepM K F' H' M'->E (.ref C) od H'
abbrev CalMM(P:Program)(w:World)(K:Ex)(mg:Str->Option Value)(base:Heap)(n:Nat)(x:Str)(ps:List Str)(S:SpM):Prop:=Cal P w K mg base n x ps (lSpM K S)
def ofX(S:SpX):SpM:=λds M R RX=>S ds (λd=>R d M) λx fs=>RX x fs M
def ofD(S:SpD):SpM:=λds M R _=>S ds λd=>R d M
theorem zk{K:Ex}{S:SpX}{vs:List V}{H:Hp}{Q:VK}{E:XK}(h:lSpM K (ofX S) vs H Q E):lSpX K S vs H Q E:=by
 obtain⟨F,ds,M,fh,rs,rm,R,RX,hS,q,qx⟩:=h
 exact⟨F,ds,fh,rs,_,_,hS,λd v F' H' g hd rd=>q d v M F' H' g.toM hd rd (rm.grow g),λx fs C od F' H' g hR er=>qx x fs C od M F' H' g.toM hR er (rm.grow g)⟩
theorem zl{K:Ex}{S:SpD}{vs:List V}{H:Hp}{Q:VK}{E:XK}(h:lSpM K (ofD S) vs H Q E):lSp K S vs H Q E:=by
 obtain⟨F,ds,M,fh,rs,rm,R,RX,hS,q,qx⟩:=h
 exact⟨F,ds,fh,rs,_,hS,λd v F' H' g hd rd=>q d v M F' H' g.toM hd rd (rm.grow g)⟩
section
variable {P:Program}{w:World}{K:Ex}{mg:Str->Option Value}{base:Heap}{n:Nat}{x:Str}{ps:List Str}
theorem CalX.toM{S:SpX}(C:CalX P w K mg base n x ps S):CalMM P w K mg base n x ps (ofX S):=by
 obtain⟨f,fd,F,hb,hk,hm⟩:=C
 exact⟨f,fd,F.imp λvs H Q E h=>zk h,hb,hk,hm⟩
theorem CalD.toM{S:SpD}(C:CalD P w K mg base n x ps S):CalMM P w K mg base n x ps (ofD S):=by
 obtain⟨f,fd,F,hb,hk,hm⟩:=C
 exact⟨f,fd,F.imp λvs H Q E h=>zl h,hb,hk,hm⟩
def CalMth(P:Program)(w:World)(K:Ex)(mg:Str->Option Value)(base:Heap)(n:Nat)(x m:Str)(ps:List Str)(sp:Sp):Prop:=
 ∃ C f fd,nsIn K mainGlobals x=some (some (.ref C))/\Cls K C/\Meth K C m f/\FnOk P w K mg base (CX1 P w) n f fd ps sp/\Binds K fd ps []
theorem Cal.mono{sp:Sp}{n':Nat}(h:Cal P w K mg base n x ps sp)(hn:n<=n'):Cal P w K mg base n' x ps sp:=by
 obtain⟨f,fd,F,h⟩:=h
 exact⟨f,fd,F.mono hn,h⟩
theorem Cal.imp{sp Iz:Sp}(h:Cal P w K mg base n x ps sp)(i:∀ vs H Q E,Iz vs H Q E->sp vs H Q E):Cal P w K mg base n x ps Iz:=by
 obtain⟨f,fd,F,h⟩:=h
 exact⟨f,fd,F.imp i,h⟩
theorem CalMth.imp{m:Str}{sp Iz:Sp}(h:CalMth P w K mg base n x m ps sp)(i:∀ vs H Q E,Iz vs H Q E->sp vs H Q E):CalMth P w K mg base n x m ps Iz:=by
 obtain⟨C,f,fd,h1,h2,h3,h4,h5⟩:=h
 exact⟨C,f,fd,h1,h2,h3,h4.imp i,h5⟩
end
def XOkM(X:Cx)[J:Jm]:Prop:=∀ (σ:L2.St) (z:SD) (M:MS) (F H:Hp) (s:Shared) (e C:Addr) (od:Option Addr) (x:Str) (fs:List (Str × D)),Inv X [] σ H s->Kept J.B J.F0 F H->RepZ X.K J.B F H z σ M->J.RM z M x fs->ErrD X.K F x fs C od->Exd X H s e C od->X.xe (.ref e) s
def EX(X:Cx)[J:Jm](z:SD)(σ:L2.St):XK:=λCv od H'=>∃ x fs C M' F',Cv= .ref C/\Kept J.B J.F0 F' H'/\RepZ X.K J.B F' H' z σ M'/\J.RM z M' x fs/\ErrD X.K F' x fs C od
theorem XOkM.out{X:Cx}[J:Jm](hx:XOkM X)(f7:X.ex=[]){pins:List (Addr × Obj)}{σ:L2.St}{z:SD}{H:Hp}{s s':Shared}{ev:Value}(I:Inv X pins σ H s)
  (h:CX1 X.prog X.w X.stack H s (EX X z σ) ev s'):X.xe ev s':=by
 obtain⟨e,C,od,T,H',rfl,z8,hb,un,hok,L4,ne,nT,He,HT,x,fs,C',M',F',hC,kk,rr,hR,er⟩:=h
 cases hC
 have I':Inv X pins σ H' s':=I.call' z8 un hok hb (λb z=>absurd z (by simp))
 exact hx σ z M' F' H' s' e C od x fs (Inv.nopins I') kk rr hR er ⟨He,cI I f7 ne,pn_free I ne,.inr ⟨T,L4,cI I f7 nT,HT,pn_free I nT⟩⟩
section
variable {X:Cx}[J:Jm]{a b c e o:Expr}{ta tb te:TME}{pos p apos cpos:Pos}{n m:Nat}{ps:List Str}{S:SpM}{x:Str}{es:List Expr}{t:TMA}
def zm(S:SpM)(t:TMA):TME:=λz M R=>t z M λds M1=>S ds M1 R λx fs M'=>J.RM z M' x fs
theorem jW{σ:L2.St}{z:SD}{M M1:MS}{F H F1 H1:Hp}{ds:List D}{vs:List V}{Q:VK}{R:D->MS->Prop}(k:Kept J.B J.F0 F H)(rs:RepZ X.K J.B F H z σ M)(g1:GrowM M M1 F H F1 H1)(m1:RepM X.K F1 H1 M1)(rx:Reps X.K F1 ds vs)
  (hS:S ds M1 R λx fs M'=>J.RM z M' x fs) (h2:∀ d v M' F' H',GrowM M M' F H F' H'->R d M'->Rep X.K F' d v->RepM X.K F' H' M'->Q v H'):lSpM X.K S vs H1 Q (EX X z σ):=
 ⟨F1,ds,M1,g1.fh,rx,m1,R,_,hS,λd v M' F' H' g hd rd m'=>h2 d v M' F' H' (g1.trans g) hd rd m',λy fs C od M' F' H' g hR er m'=>⟨y,fs,C,M',F',rfl,(k.growM rs.mb g1).growM (rs.growM k.bh g1 m1).mb g,(rs.growM k.bh g1 m1).growM (k.growM rs.mb g1).bh g m',hR,er⟩⟩
theorem aZ(C:CalMM X.prog X.w X.K X.mg X.base n x ps S)(hx:XOkM X)(hr:Room m X.A)(ha:MA X (e::es) t)(f7:X.ex=[]:=by rfl)(hg:Gl X x:=by rfl)(hn:n<=m:=by decide)(d7:zND x:=by decide)
  (he:zSE X e es:=by rfl) (b_:zPL X pos es:=by rfl):
  ME X (.Call (.Name x p) (e::es) [] pos) (zm S t):=by
 obtain⟨f,fd,F,hb,hk,hm⟩:=C
 refine⟨λpins s σ H Q I h=>?_⟩
 obtain⟨Fr,z,M,k,rs,R,h1,h2⟩:=h
 refine wpAny_Call_Name_kw (cF I hg hm ?_ d7)
 refine callWith_K (h₀:=X.base) I.ok.mod.kin hk (thn (ha.out pos pins s σ H (λvs H1=>lSpM X.K S vs H1 Q (EX X z σ)) I ⟨Fr,z,M,k,rs,_,h1,λds vs M1 F1 H1 g1 hx rx m1=>jW k rs g1 m1 rx hx h2⟩) λus s1 ⟨vs,H1,I1,r,q⟩=>⟨I1.kIn,?_⟩) he b_
 exact gE F (hr.mono hn) hb (λe s' hq=>hx.out f7 I1 hq) I1 r q
def rG(cs:List Str)(m:Str)(S:Str->SpM)(to:TME)(t:TMA):TME:=λz M R=>to z M λd M1=>∃ x,x∈cs/\∃ fs,eI M1 d x fs/\fs.lookup m=none/\t z M1 λds M2=>S x (d::ds) M2 R λx fs M'=>J.RM z M' x fs
theorem aX{cs:List Str}{nm:Str}{S:Str->SpM}{pl:Sem Bool}(C:∀ x,x∈cs->CalMth X.prog X.w X.K X.mg X.base n x nm ps (lSpM X.K (S x)))(hx:XOkM X)(hr:Room m X.A)(ho:ME X o te)(ha:MA X (e::es) t)(f7:X.ex=[]:=by rfl)(hn:n<=m:=by decide)
  (k_:zSE X e es:=by rfl) (b_:zPL X pos es:=by rfl)
  (ht:eval (.Call (.Attribute o nm apos) (e::es) [] pos) X.env=(do
   let ov <- eval o X.env
   standAt apos.atName
   let (f,first) <- holding [ov] (getMethod ov nm pl)
   callWith pos f first (backTo pos (starEach (e::es) X.env)) (backToKw pos (keywordEach [] X.env))):=by rfl):
  ME X (.Call (.Attribute o nm apos) (e::es) [] pos) (rG cs nm S te t):=by
 refine⟨λpins s σ H Q I h=>?_⟩
 obtain⟨Fr,z,M,k,rs,R,h1,h2⟩:=h
 refine methodCall_KW (pl:=pl) (thn (ho.out pins s σ H (λv H1=>∃ d M1 F1,GrowM M M1 Fr H F1 H1/\Rep X.K F1 d v/\RepM X.K F1 H1 M1/\∃ x,x∈cs/\∃ fs,eI M1 d x fs/\fs.lookup nm=none/\t z M1 λds M2=>S x (d::ds) M2 R λx fs M'=>J.RM z M' x fs) I ⟨Fr,z,M,k,rs,_,h1,λd v M1 F1 H1 g1 hd rd m1=>⟨d,M1,F1,g1,rd,m1,hd⟩⟩) λu s1 ⟨v,H1,I1,rv,d,M1,F1,g1,rd,m1,x,L8,fs,hi,hl,hq⟩=>?_) ht
 obtain⟨C',f,fd,hns,j8,Kk,F,hb⟩:=C x L8
 obtain⟨a,C2,dx,ws,rfl,v8,hH,rf⟩:=jV g1.fh m1 rd hi
 rw[hns] at v8
 cases v8
 obtain rfl:u=Value.ref a:=rv
 refine pI I1 hH j8 Kk (rf.none hl) ?_
 refine callWith_K (first:=[.ref a]) (h₀:=X.base) I.ok.mod.kin Kk.kp (thn (ha.out pos pins s1 σ H1 (λvs H2=>lSpM X.K (S x) (.ref a::vs) H2 Q (EX X z σ)) I1 ⟨F1,z,M1,k.growM rs.mb g1,rs.growM k.bh g1 m1,_,hq,λds vs M2 F2 H2 g2 hx rx m2=>jW k rs (g1.trans g2) m2 (reps_cons.mpr ⟨_,_,rfl,rd.mono g2.ff,rx⟩) hx h2⟩) λus s2 ⟨vs,H2,I2,r,q2⟩=>⟨I2.kIn,?_⟩) k_ b_
 exact gE (us:= .ref a::us) (vs:= .ref a::vs) F (hr.mono hn) hb (λe s' hq=>hx.out f7 I2 hq) I2 (.cons rfl r) q2
theorem dF{cs:List Str}{nm:Str}{S:Str->SpM}{pl:Sem Bool}(C:∀ x,x∈cs->CalMth X.prog X.w X.K X.mg X.base n x nm ps (lSpM X.K (S x)))(hx:XOkM X)(hr:Room m X.A)(ho:ME X o te)(f7:X.ex=[]:=by rfl)(hn:n<=m:=by decide)
  (ht:eval (.Call (.Attribute o nm apos) [] [] pos) X.env=(do
   let ov <- eval o X.env
   standAt apos.atName
   let (f,first) <- holding [ov] (getMethod ov nm pl)
   callWith pos f first (backTo pos (starEach [] X.env)) (backToKw pos (keywordEach [] X.env))):=by rfl):
  ME X (.Call (.Attribute o nm apos) [] [] pos) (rG cs nm S te mNil):=by
 refine⟨λpins s σ H Q I h=>?_⟩
 obtain⟨Fr,z,M,k,rs,R,h1,h2⟩:=h
 refine methodCall_KW (pl:=pl) (thn (ho.out pins s σ H (λv H1=>∃ d M1 F1,GrowM M M1 Fr H F1 H1/\Rep X.K F1 d v/\RepM X.K F1 H1 M1/\∃ x,x∈cs/\∃ fs,eI M1 d x fs/\fs.lookup nm=none/\S x [d] M1 R λx fs M'=>J.RM z M' x fs) I ⟨Fr,z,M,k,rs,_,h1,λd v M1 F1 H1 g1 hd rd m1=>⟨d,M1,F1,g1,rd,m1,hd⟩⟩) λu s1 ⟨v,H1,I1,rv,d,M1,F1,g1,rd,m1,x,L8,fs,hi,hl,hq⟩=>?_) ht
 obtain⟨C',f,fd,hns,j8,Kk,F,hb⟩:=C x L8
 obtain⟨a,C2,dx,ws,rfl,v8,hH,rf⟩:=jV g1.fh m1 rd hi
 rw[hns] at v8
 cases v8
 obtain rfl:u=Value.ref a:=rv
 refine pI I1 hH j8 Kk (rf.none hl) ?_
 refine callWith_K0 (first:=[.ref a]) I1.kIn Kk.kp (gE (E:=EX X z σ) (us:=[.ref a]) (vs:=[.ref a]) F (hr.mono hn) hb (λe s' hq=>hx.out f7 I1 hq) I1 (.cons rfl .nil) ?_)
 exact jW k rs g1 m1 (eA rd) hq h2
theorem make_of{C:Addr}{S:SiD}{x:Str}{σ:L2.St}{z:SD}{M M1:MS}{F H F1 H1:Hp}{ds:List D}{vs:List V}{a dx:Addr}{Q:VK}{E:XK}{T:List (Str × D)->Prop}(g1:GrowM M M1 F H F1 H1)(m1:RepM X.K F1 H1 M1)(rx:Reps X.K F1 ds vs)(hS:S ds T)
  (ha:H1 a=none) (v5:H1 dx=none) (j3:dx≠a) (q:∀ fs ws dx F' H',Grow F1 H1 F' H'->T fs->H' a=some (.ins C dx ws)->F' a=none->RepF X.K F' fs ws->Q (.ref a) H'):
  lSi X.K C S (.ref a::(vs++[])) (upd (upd H1 dx (.own a)) a (.ins C dx [])) (λv H2=>v= .non/\Q (.ref a) H2) E:=
 ⟨a,dx,vs,H1,F1,ds,by rw[FA],rfl,ha,v5,j3,g1.fh,rx,_,hS,λfs ws D_ F' H' g hR f8 i9 rf=>⟨rfl,q fs ws D_ F' H' g hR f8 i9 rf⟩⟩
def zn(x:Str)(S:SiD)(t:TMA):TME:=λz M R=>t z M λds M1=>S ds λfs=>R (.obj x fs) M1
theorem gR{S:SiD}(M:CalM X.prog X.w X.K X.mg X.base n x ps S)(hr:Room m X.A)(ha:MA X (e::es) t)(hg:Gl X x:=by rfl)(hn:n+1<=m:=by decide)(d7:zND x:=by decide)
  (he:zSE X e es:=by rfl) (b_:zPL X pos es:=by rfl):
  ME X (.Call (.Name x p) (e::es) [] pos) (zn x S t):=by
 obtain⟨C,f,fd,hns,l9,mk,F,hb⟩:=M
 refine⟨(jA mk F (hr.mono hn) hg l9 hb .nil fv ha.out d7 he b_).anti λs H Q q=>?_⟩
 obtain⟨F,z,M,k,rs,R,h1,h2⟩:=q
 refine⟨F,z,M,k,rs,_,h1,λds vs M1 F1 H1 g1 hx rx m1=>?_⟩
 intro a dx ha v5 j3
 refine make_of (σ:=s) (z:=z) (x:=x) g1 m1 rx hx ha v5 j3 λfs ws dx F' H' g hR f8 i9 rf=>?_
 have s1:Same F' (upd F' a (.ins C dx ws)):=aQ i9 _
 have g2:Grow F1 H1 (upd F' a (.ins C dx ws)) H':=⟨g.ff.trans s1,λb o q=>by
  by_cases hb:b=a
  ·subst hb;rw[az] at q;cases q;exact f8
  ·rw[ao hb] at q;exact g.fh b o q,g.hh,λb q1 q2=>by
  by_cases hb:b=a
  ·subst hb;exact absurd ha q2
  ·rw[ao hb];exact g.out b q1 q2⟩
 exact h2 (.obj x fs) (.ref a) M1 (upd F' a (.ins C dx ws)) H' (g1.trans g2.toM) hR (rep_obj.mpr ⟨a,C,dx,ws,rfl,hns,az,RepF.mono s1 fs ws rf⟩) (m1.grow g2)
def zo(x:Str)(S:SiD)(t:TMA):TME:=λz M R=>t z M λds M1=>S ds λfs=>∀ a,a ∉ aw M1->R (.ptr a) ((a,.ins x fs)::M1)
theorem zp{S:SiD}(M:CalM X.prog X.w X.K X.mg X.base n x ps S)(hr:Room m X.A)(ha:MA X (e::es) t)(hg:Gl X x:=by rfl)(hn:n+1<=m:=by decide)(d7:zND x:=by decide)
  (he:zSE X e es:=by rfl) (b_:zPL X pos es:=by rfl):
  ME X (.Call (.Name x p) (e::es) [] pos) (zo x S t):=by
 obtain⟨C,f,fd,hns,l9,mk,F,hb⟩:=M
 refine⟨(jA mk F (hr.mono hn) hg l9 hb .nil fv ha.out d7 he b_).anti λs H Q q=>?_⟩
 obtain⟨F,z,M,k,rs,R,h1,h2⟩:=q
 refine⟨F,z,M,k,rs,_,h1,λds vs M1 F1 H1 g1 hx rx m1=>?_⟩
 intro a dx ha v5 j3
 refine make_of (σ:=s) (z:=z) (x:=x) g1 m1 rx hx ha v5 j3 λfs ws dx F' H' g hR f8 i9 rf=>?_
 have na:a ∉ aw M1:=λz=>m1.here z ha
 have m2:=m1.grow g
 refine h2 (.ptr a) (.ref a) _ F' H' (g1.trans ⟨g.ff,g.fh,λb o _ q=>g.hh b o q,λb _ q1 q2=>g.out b q1 q2,λb q=>?_⟩) (hR a na) (rep_ptr.mpr rfl) ⟨FK.mpr ⟨na,m2.nd⟩,λb o q=>?_,λb q=>?_⟩
 ·rcases EU.mp q with q|q
  ·exact .inr (by rw[q];exact ha)
  ·exact .inl q
 ·rcases EU.mp q with q|q
  ·cases q;exact⟨C,dx,ws,hns,f8,rf⟩
  ·exact m2.ok b o q
 ·rcases EU.mp q with q|q
  ·rw[q];exact i9
  ·exact m2.fr b q
end
section
variable {X:Cx}{x:Str}{e:Expr}{es:List Expr}{t:TA}{p cpos pos:Pos}{n m:Nat}{ps:List Str}{S:SiD}
def gS(X:Cx)(σ:L2.St)(F1 H1:Hp)(x:Str)(fs:List (Str × D)):Prop:=∀ F' H' s' e C od,Inv X [] σ H' s'->Grow F1 H1 F' H'->ErrD X.K F' x fs C od->Exd X H' s' e C od->X.xe (.ref e) s'
theorem zq(M:CalE X.prog X.w X.K X.mg X.base n x ps S)(hr:Room m X.A)(hc:X.calm=true)(ha:PA X (e::es) t)(f7:X.ex=[]:=by rfl)(hg:Gl X x:=by rfl)(hn:n+1<=m:=by decide)(d7:zND x:=by decide)
  (he:zSE X e es:=by rfl) (b_:zPL X cpos es:=by rfl):
  PS X (.Raise (some (.Call (.Name x p) (e::es) [] cpos)) none pos) (λ_ σ H=>t σ H λvs H1=>vs.length<=1000/\∃ F1 ds,Same F1 H1/\Reps X.K F1 ds vs/\∃ T:List (Str × D)->Prop,S ds T/\∀ fs,T fs->gS X σ F1 H1 x fs):=by
 obtain⟨C,N,bm,f,fd,k,hi,JR,Fn,hb⟩:=M
 intro pins s σ H D I h
 obtain⟨nm,q,bs,sn,sub,ab,col,dd,k0,k1,k2,k3,k5,lk⟩:=k.obj
 refine jE (nm:=nm) (q:=q) (C:=C) (N:=N) (bs:=bs) (bm:=bm) (hdct:=true) (sn:=sn) (sub:=sub) (ab:=ab) (col:=col) (dd:=dd) (k0:=k0) (k1:=k1) (k2:=k2) (k3:=k3) (k5:=k5) (newId:="ValueError.__new__") k.base (I.ok.hd hc) ?_
 refine wpAny_Call_Name_kw (cF I hg k.mg ?_ d7)
 refine callWith_K (h₀:=X.base) I.ok.mod.kin k.kp (thn (ha cpos pins s σ H _ I h) λus s1 ⟨vs,H1,I1,r,hl,F1,ds,L9,rx,T,hS,hT⟩=>⟨I1.kIn,?_⟩) he b_
 have hC:=I1.kIn _ _ lk
 have O8:us.length<=sizeLine:=by rw[<- L2.Vals.length r];exact sz hl
 refine xj (g:=s1.gens) (d:=s1.drawn) (t:=s1.toks) (os:=s1.os) (rest:=us) I1.kIn (tail_of_in I1.kIn k.tail) hC hi (beq_iff_eq.mp JR) (λh' ea hm=>?_) O8
 have I2:=Inv.newx I1 f7 hm
 have r2:Vals (V.ref ea::vs) (Value.ref ea::us):= .cons rfl r
 have He:H1 ea=none:=gG I1.hok hm.new
 have q8:lEi X.K C S (V.ref ea::vs) (upd H1 ea (XN ea C none)) (λv H'=>v= .non/\∃ fs od F',Grow F1 H1 F' H'/\gS X σ F1 H1 x fs/\H' ea=some (XN ea C od)/\F' ea=none/\ErrF X.K F' fs od) (λ_ _ _=>False):=
  ⟨ea,vs,H1,F1,ds,rfl,rfl,He,L9,rx,_,hS,λfs od F' H' g hR h1 h2 h3=>⟨rfl,fs,od,F',g,hT fs hR,h1,h2,h3⟩⟩
 have b7:(Value.ref ea::us).length=ps.length:=by rw[<- L2.Vals.length r2];exact Fn.len _ _ _ _ q8
 have gt:=hb {s1 with heap:=h'} (Value.ref ea::us) I2.kIn (by rw[FA];exact b7)
 rw[FA] at gt
 refine wpAny_call (codeAny_mono (Fn.run _ X.stack _ _ ⟨Value.ref ea::us,[]⟩ (Value.ref ea::us) _ _ _ ((hr.mono hn).make C us []) (I2.env0.make C us []) gt r2 q8) λrr s' hq=>?_)
 cases rr with
 |error e'=>exact(fv (X:=X) pins σ _ _ e' s' I2 hq:X.xe e' s')
 |ok fl=>
  cases fl with
  |next=>exact False.elim hq
  |brk=>exact False.elim hq
  |cont=>exact False.elim hq
  |ret u=>
   obtain⟨v,H',I3,rv,rfl,fs,od,F',g,hR,v7,O9,er⟩:=I2.after hq
   obtain rfl:u=Value.none:=rv
   refine⟨rfl,?_⟩
   have e0:X.s₀.heap.get? ea=none:=cI I1 f7 hm.new
   have I4:=Inv.drop I3 v7 e0
   obtain⟨ta,sl,n9⟩:=XN.get I3.hok v7
   have g4:Grow F1 H1 F' (del H' ea):=⟨g.ff,λb o q=>by
    have:b≠ea:=λz=>by rw[z,O9] at q;cases q
    rw[bZ this];exact g.fh b o q,λb o q=>by
    have:b≠ea:=λz=>by rw[z,He] at q;cases q
    rw[bZ this];exact g.hh b o q,g.out⟩
   refine⟨ea,ta,od,sl,rfl,I3.kIn _ _ lk,n9,?_⟩
   exact hR F' (del H' ea) s' ea C od (Inv.nopins I4) g4 ⟨k.ns,er⟩ ⟨fH,e0,pn_free I1 hm.new,.inl ⟨sl,_,n9,rfl⟩⟩
theorem zr(h:∃ C N bm,ErrK X.K X.mg x C N bm/\ErrN X.K N)(hc:X.calm=true)(ha:PA X (e::es) t)(f7:X.ex=[]:=by rfl)(hg:Gl X x:=by rfl)(d7:zND x:=by decide)
  (he:zSE X e es:=by rfl) (b_:zPL X cpos es:=by rfl):
  PS X (.Raise (some (.Call (.Name x p) (e::es) [] cpos)) none pos) (λ_ σ H=>t σ H λvs H1=>vs.length<=1000/\∃ F1,Same F1 H1/\gS X σ F1 H1 x []):=by
 obtain⟨C,N,bm,k,kn⟩:=h
 intro pins s σ H D I h
 obtain⟨nm,q,bs,sn,sub,ab,col,dd,k0,k1,k2,k3,k5,lk⟩:=k.obj
 refine jE (nm:=nm) (q:=q) (C:=C) (N:=N) (bs:=bs) (bm:=bm) (hdct:=true) (sn:=sn) (sub:=sub) (ab:=ab) (col:=col) (dd:=dd) (k0:=k0) (k1:=k1) (k2:=k2) (k3:=k3) (k5:=k5) (newId:="ValueError.__new__") k.base (I.ok.hd hc) ?_
 refine wpAny_Call_Name_kw (cF I hg k.mg ?_ d7)
 refine callWith_K (h₀:=X.base) I.ok.mod.kin k.kp (thn (ha cpos pins s σ H _ I h) λus s1 ⟨vs,H1,I1,r,hl,F1,L9,hR⟩=>⟨I1.kIn,?_⟩) he b_
 have hC:=I1.kIn _ _ lk
 obtain⟨hp,gg,dr,tk,os⟩:=s1
 refine wpAny_call_exc_subT PySem.F.excBase_ValueError (tail_of_in I1.kIn k.tail) hC (.of_isNs (isNs_of_in I1.kIn kn.ok)) (nsMap_none_of_in I1.kIn kn.ok kn.no) (λh' ea hm=>?_) (by show us.length<=_;rw[<- L2.Vals.length r];exact sz hl)
 obtain⟨ta,h1,h2,h3⟩:=hm.there
 have I2:Inv X pins σ H1 ⟨h',gg,dr,tk,os⟩:=I1.kept (t':=tk) hm.keeps
 refine⟨ea,ta,none,#[],rfl,hm.keeps _ _ hC,h1,?_⟩
 exact hR F1 H1 _ ea C none (Inv.nopins I2) (Grow.refl L9) ⟨k.ns,[],repf_nil.mpr rfl,.inl ⟨rfl,rfl⟩⟩ ⟨gG I1.hok hm.new,cI I1 f7 hm.new,pn_free I1 hm.new,.inl ⟨#[],_,h1,rfl⟩⟩
end
section
variable {X:Cx}[J:Jm]{x:Str}{e:Expr}{es:List Expr}{t:TMA}{p cpos pos:Pos}{n m:Nat}{ps:List Str}{S:SiD}
def zt(x:Str)(S:SiD)(t:TMA):TMS:=λ_ z M=>t z M λds M1=>ds.length<=1000/\S ds λfs=>J.RM z M1 x fs
theorem rH{σ:L2.St}{z:SD}{M M1:MS}{F H F1 H1:Hp}{fs:List (Str × D)}(hx:XOkM X)(k:Kept J.B J.F0 F H)(rs:RepZ X.K J.B F H z σ M)(g1:GrowM M M1 F H F1 H1)(m1:RepM X.K F1 H1 M1)(hR:J.RM z M1 x fs):gS X σ F1 H1 x fs:=λF' H' s' e C od I g er ex=>
 hx σ z M1 F' H' s' e C od x fs I ((k.growM rs.mb g1).grow g) ((rs.growM k.bh g1 m1).growM (k.growM rs.mb g1).bh g.toM (m1.grow g)) hR er ex
theorem jX(M:CalE X.prog X.w X.K X.mg X.base n x ps S)(hr:Room m X.A)(hx:XOkM X)(hc:X.calm=true)(ha:MA X (e::es) t)(f7:X.ex=[]:=by rfl)(hg:Gl X x:=by rfl)(hn:n+1<=m:=by decide)(d7:zND x:=by decide)
  (he:zSE X e es:=by rfl) (b_:zPL X cpos es:=by rfl):
  MSt X (.Raise (some (.Call (.Name x p) (e::es) [] cpos)) none pos) (zt x S t):=⟨(zq M hr hc ha.out f7 hg hn d7 he b_).anti λE s H q=>by
 obtain⟨F0,F,z,M,k,rs,ED,h,ee⟩:=q
 exact⟨F,z,M,k.kf,rs,_,h,λds vs M1 F1 H1 g1 i6 rx m1=>⟨by rw[rx.length];exact i6.1,F1,ds,g1.fh,rx,_,i6.2,λfs hR=>rH hx k.kf rs g1 m1 hR⟩⟩⟩
def zu(x:Str)(t:TMA):TMS:=λ_ z M=>t z M λds M1=>ds.length<=1000/\J.RM z M1 x []
theorem zv(h:∃ C N bm,ErrK X.K X.mg x C N bm/\ErrN X.K N)(hx:XOkM X)(hc:X.calm=true)(ha:MA X (e::es) t)(f7:X.ex=[]:=by rfl)(hg:Gl X x:=by rfl)(d7:zND x:=by decide)
  (he:zSE X e es:=by rfl) (b_:zPL X cpos es:=by rfl):
  MSt X (.Raise (some (.Call (.Name x p) (e::es) [] cpos)) none pos) (zu x t):=⟨(zr h hc ha.out f7 hg d7 he b_).anti λE s H q=>by
 obtain⟨F0,F,z,M,k,rs,ED,h,ee⟩:=q
 exact⟨F,z,M,k.kf,rs,_,h,λds vs M1 F1 H1 g1 i6 rx m1=>⟨by rw[rx.length];exact i6.1,F1,g1.fh,rH hx k.kf rs g1 m1 i6.2⟩⟩⟩
end
section
variable {X:Cx}[J:Jm]{a b c e:Expr}{ta tb tc te:TME}{pos:Pos}{st:Stmt}{rest:List Stmt}{t u:TMS}
def zw:TMS:=λE z M=>E.nx z M
def mSeq(t u:TMS):TMS:=λE z M=>t {E with nx:=u E} z M
theorem bQ:MSs X [] zw:=⟨pss_nil.anti λE s H q=>by
 obtain⟨F0,F,z,M,k,rs,ED,h,e⟩:=q
 exact e.nx z s M F H k h rs⟩
theorem aA(h1:MSt X st t)(h2:MSs X rest u):MSs X (st::rest) (mSeq t u):=⟨(fg h1.out h2.out).anti λE s H q=>by
 obtain⟨F0,F,z,M,k,rs,ED,h,e⟩:=q
 exact⟨F0,F,z,M,k,rs,{ED with nx:=u ED},h,⟨λz' s' M' F' H' k' hz r'=>⟨F0,F',z',M',k',r',ED,hz,e⟩,e.rt,e.bk,e.ct⟩⟩⟩
theorem aE(h1:MSt X st t):MSs X [st] t:=⟨oY h1.out⟩
def mRet(te:TME):TMS:=λE z M=>te z M E.rt
theorem aM(he:ME X e te):MSt X (.Return (some e) pos) (mRet te):=⟨(oZ he.out).anti λE s H q=>by
 obtain⟨F0,F,z,M,k,rs,ED,h,e⟩:=q
 exact⟨F,z,M,k.kf,rs,_,h,λd v M' F' H' g hd rd m'=>e.rt d v M' F' H' (k.growM rs.mb g) hd rd m' (rs.growM k.bh g m').mb⟩⟩
def zx(te:TME):TMS:=λE z M=>te z M λ_ M1=>E.nx z M1
theorem ck(he:ME X e te)(hs:swapsWith e none pos.line X.env=pure false:=by rfl):MSt X (.Expr e pos) (zx te):=⟨(jp he.out hs).anti λE s H q=>by
 obtain⟨F0,F,z,M,k,rs,ED,h,e⟩:=q
 exact⟨F,z,M,k.kf,rs,_,h,λd v M' F' H' g hd rd m'=>e.nx z s M' F' H' (k.growM rs.mb g) hd (rs.growM k.bh g m')⟩⟩
def mIfS(c:TMT)(t u:TMS):TMS:=λE z M=>c z M λb M1=>if b=true then t E z M1 else u E z M1
theorem cb{c:Expr}{l r:List Stmt}{tc:TMT}(hc:MT X c tc)(ha:MSs X l t)(hb:MSs X r u):MSt X (.If c l r pos) (mIfS tc t u):=⟨(pd hc.out ha.out hb.out).anti λE s H q=>by
 obtain⟨F0,F,z,M,k,rs,ED,h,e⟩:=q
 refine⟨F,z,M,k.kf,rs,_,h,λb M1 F1 H1 g hk m1=>?_⟩
 cases b with
 |true=>exact⟨F0,F1,z,M1,k.growM rs.mb g,rs.growM k.bh g m1,ED,hk,e⟩
 |false=>exact⟨F0,F1,z,M1,k.growM rs.mb g,rs.growM k.bh g m1,ED,hk,e⟩⟩
def mIfJ(c:TMT)(t u:TMS):TMS:=λE z M=>∃ J:SD->MS->Prop,(c z M λb M1=>if b=true then t {E with nx:=J} z M1 else u {E with nx:=J} z M1)/\∀ z' M',J z' M'->E.nx z' M'
theorem rJ{c:Expr}{l r:List Stmt}{tc:TMT}(hc:MT X c tc)(ha:MSs X l t)(hb:MSs X r u):MSt X (.If c l r pos) (mIfJ tc t u):=⟨(cb hc ha hb).out.anti λE s H q=>by
 obtain⟨F0,F,z,M,k,rs,ED,⟨J,h,j⟩,e⟩:=q
 exact⟨F0,F,z,M,k,rs,{ED with nx:=J},h,⟨λz' s' M' F' H' k' hz r'=>e.nx z' s' M' F' H' k' (j z' M' hz) r',e.rt,e.bk,e.ct⟩⟩⟩
def mSet(i:Nat)(te:TME):TMS:=λE z M=>∃ P:D->MS->Prop,te z M P/\∀ d M',P d M'->E.nx (z.set i (some d)) M'
theorem bb(i:Nat){x:Str}{c8:Pos}(hN:X.N.Nodup)(he:ME X e te)(hi:X.N[i]?=some x:=by rfl)(hx:Loc X.env.scope x:=by first|exact Or.inl rfl|exact Or.inr rfl)(hs:swapsWith e (some (.Name x c8)) pos.line X.env=pure false:=by rfl)
  (hf:zFN X x:=by first|exact .inl rfl|exact .inr rfl|assumption):MSt X (.Assign [.Name x c8] e pos) (mSet i te):=⟨(jr hN hi hx he.out hs hf).anti λE s H q=>by
 obtain⟨F0,F,z,M,k,rs,ED,⟨P,h,j⟩,e⟩:=q
 exact⟨F,z,M,k.kf,rs,P,h,λd v M' F' H' g hd rd m'=>e.nx _ _ M' F' H' (k.growM rs.mb g) (j d M' hd) ((rs.growM k.bh g m').set rd)⟩⟩
def zy(x f:Str)(to te:TME):TMS:=λE z M=>te z M λd M1=>to z M1 λo M2=>match o with| .ptr a=>∃ fs,mget M2 a=some (.ins x fs)/\fs.length<1000/\E.nx z (mput M2 a (.ins x (putD f d fs)))|_=>False
theorem gT{x f:Str}{o:Expr}{to:TME}{c8:Pos}(hA:ClsA X.K x f)(ho:ME X o to)(he:ME X e te)(hs:swapsWith e (some (.Attribute o f c8)) pos.line X.env=pure false:=by rfl):
  MSt X (.Assign [.Attribute o f c8] e pos) (zy x f to te):=⟨(pK ho.out he.out hs).anti λE s H q=>by
 obtain⟨C,hn,hc,hf⟩:=hA
 obtain⟨F0,F,z,M,k,rs,ED,h,ee⟩:=q
 refine⟨F,z,M,k.kf,rs,_,h,λd v M1 F1 H1 g1 hx rd m1=>?_⟩
 have k1:=k.growM rs.mb g1
 have t6:=rs.growM k.bh g1 m1
 refine⟨F1,z,M1,k1.kf,t6,_,hx,λo' v' M2 F2 H2 g2 hy ro m2=>?_⟩
 have k2:=k1.growM t6.mb g2
 have Jt:=t6.growM k1.bh g2 m2
 split at hy
 ·rename_i a
  obtain⟨fs,hm,hl,Kf⟩:=hy
  obtain⟨C',dx,ws,k8,hH,rf⟩:=m2.ok _ _ (bL hm)
  rw[hn] at k8
  cases k8
  have fa:=m2.fr a (cj (bL hm))
  refine⟨a,C,dx,ws,rep_ptr.mp ro,hH,hc,hf,by rw[rf.length];exact hl,?_⟩
  have m3:RepM X.K F2 (upd H2 a (.ins C dx (putF f v ws))) (mput M2 a (.ins x (putD f d fs))):=m2.put hm ⟨C,dx,_,hn,az,RepF.put (rd.mono g2.ff) rf⟩
  have g3:GrowM M2 (mput M2 a (.ins x (putD f d fs))) F2 H2 F2 (upd H2 a (.ins C dx (putF f v ws))):=GrowM.put k2.fh fa hm
  exact ee.nx z s _ F2 _ (k2.growM Jt.mb g3) Kf (Jt.growM k2.bh g3 m3)
 ·exact hy.elim⟩
def zz(c:TMT)(tb:TMS):TMS:=λE z M=>∃ W:Nat->SD->MS->Prop,(∃ m,W m z M)/\∀ m z M,W m z M->
 c z M λb M1=>if b=true then tb {E with nx:=λz' M'=>∃ m',m'<m/\W m' z' M',ct:=λz' M'=>∃ m',m'<m/\W m' z' M',bk:=E.nx} z M1 else E.nx z M1
theorem zA{c:Expr}{body:List Stmt}{tc:TMT}{tb:TMS}(hp:PassesOwn (model X.prog X.w) X.A X.env X.xe)(hc:MT X c tc)(hb:MSs X body tb):MSt X (.While c body [] pos) (zz tc tb):=⟨(pe hp hc.out hb.out).anti λE s H q=>by
 obtain⟨F0,F,z,M,k,rs,ED,⟨W,⟨m0,w0⟩,c5⟩,e⟩:=q
 refine⟨λm s' H'=>∃ F' z' M',Kept J.B F0 F' H'/\RepZ X.K J.B F' H' z' s' M'/\W m z' M',⟨m0,F,z,M,k,rs,w0⟩,?_⟩
 rintro m s1 H1 ⟨F1,z1,M1,k1,r1,w1⟩
 refine⟨F1,z1,M1,k1.kf,r1,_,c5 m z1 M1 w1,λb M2 F2 H2 g2 hk m2=>?_⟩
 cases b with
 |true=>
  refine⟨λs3 H3=>∃ F3 z3 M3,Kept J.B F0 F3 H3/\RepZ X.K J.B F3 H3 z3 s3 M3/\∃ m',m'<m/\W m' z3 M3,λs3 H3 ⟨F3,z3,M3,k3,r3,m',l,w3⟩=>⟨m',l,F3,z3,M3,k3,r3,w3⟩,?_⟩
  exact⟨F0,F2,z1,M2,k1.growM r1.mb g2,r1.growM k1.bh g2 m2,_,hk,⟨λz3 s3 M3 F3 H3 k3 h3 r3=>⟨F3,z3,M3,k3,r3,h3⟩,e.rt,e.nx,λz3 s3 M3 F3 H3 k3 h3 r3=>⟨F3,z3,M3,k3,r3,h3⟩⟩⟩
 |false=>exact e.nx z1 s1 M2 F2 H2 (k1.growM r1.mb g2) hk (r1.growM k1.bh g2 m2)⟩
end
section
variable {X:Cx}[J:Jm]{a b c e o:Expr}{ta tb tc te to:TME}{pos:Pos}{st:Stmt}{rest:List Stmt}{t u:TMS}
abbrev TMI:=SD->MS->(List D->MS->Prop)->Prop
def mItR(t:TME):TMI:=λz M R=>t z M λx M1=>match x with| .int n=>(0<=n/\n<2 ^ 62)/\R ((ET n.toNat).map λk=>D.int ((k:Nat):Int)) M1|_=>False
def mFor(i:Nat)(ti:TMI)(tb:TMS):TMS:=λE z M=>ti z M λds M1=>∃ W:Nat->SD->MS->Prop,W 0 z M1/\(∀ k x z M,ds[k]?=some x->W k z M->tb {E with nx:=W (k+1),ct:=W (k+1),bk:=E.nx} (z.set i (some x)) M)/\∀ z M,W ds.length z M->E.nx z M
theorem zB(i:Nat){x:Str}{p p1 p2:Pos}{body:List Stmt}{tb:TMS}(hp:PassesOwn (model X.prog X.w) X.A X.env X.xe)(hc:X.calm=true)(hN:X.N.Nodup)(hm:X.mg "range"=none)(he:ME X e te)(hb:MSs X body tb)(hg:Gl X "range":=by rfl)(hi:X.N[i]?=some x:=by rfl)(hx:Loc X.env.scope x:=by first|exact Or.inl rfl|exact Or.inr rfl)
  (hf:zFN X x:=by first|exact .inl rfl|exact .inr rfl|assumption) (hs:∀ y,zFS X (.Call (.Name "range" p1) [e] [] p2) y:=by exact λ_=>rfl) (j_:zSE X e []:=by rfl) (d_:starEach [e] X.env=[(false,eval e X.env)]:=by rfl):
  MSt X (.For (.Name x p) (.Call (.Name "range" p1) [e] [] p2) body [] pos) (mFor i (mItR te) tb):=⟨(cO hp hc (fV hg hm (bj he.out pa_nil j_) d_) (fk hN hi hx hf) hb.out hs).anti λE s H q=>by
 obtain⟨F0,F,z,M,kp,rs,ED,h,e⟩:=q
 refine⟨F,z,M,kp.kf,rs,_,h,λd v M1 F1 H1 g1 hd rd m1=>?_⟩
 split at hd
 ·rename_i n
  obtain⟨⟨b1,b2⟩,W,w0,c5,out⟩:=hd
  have hl:((ET n.toNat).map λk=>D.int ((k:Nat):Int)).length=n.toNat:=by simp
  refine⟨n,by rw[rep_int.mp rd],by lia,b2,ju (lo:=0) (n:=n.toNat) (λk s' H'=>∃ F' z' M',Kept J.B F0 F' H'/\RepZ X.K J.B F' H' z' s' M'/\W k z' M') ⟨F1,z,M1,kp.growM rs.mb g1,rs.growM kp.bh g1 m1,w0⟩ ?_ ?_⟩
  ·rintro k s' H' hk ⟨F',z',M',k',r',w'⟩
   have e1:(0:Int)+(k:Int)=(k:Int):=by lia
   exact⟨F0,F',_,M',k',r'.set (d:= .int (k:Int)) (rep_int.mpr (by rw[e1])),_,c5 k (.int (k:Int)) z' M' (by simp[hk]) w',⟨λz3 s3 M3 F3 H3 k3 h3 r3=>⟨F3,z3,M3,k3,r3,h3⟩,e.rt,e.nx,λz3 s3 M3 F3 H3 k3 h3 r3=>⟨F3,z3,M3,k3,r3,h3⟩⟩⟩
  ·rintro s' H' ⟨F',z',M',k',r',w'⟩
   exact e.nx z' s' M' F' H' k' (out z' M' (by rw[hl];exact w')) r'
 ·exact hd.elim⟩
def zC(te:TME):TME:=λz M R=>te z M λd M1=>match d with| .ptr a=>∃ ds,mget M1 a=some (.lst ds)/\R (.int ds.length) M1|_=>False
theorem zD{p:Pos}(hm:X.mg "len"=none)(ha:ME X e te)(hg:Gl X "len":=by rfl)(he:zSE X e []:=by rfl):ME X (.Call (.Name "len" p) [e] [] pos) (zC te):=⟨(fZ jx hg hm PySem.boot_len (bj ha.out pa_nil he) (by decide) (by decide) he).anti λs H Q h=>by
 obtain⟨F,z,M,k,rs,R,h1,h2⟩:=h
 refine⟨F,z,M,k,rs,_,h1,λd v M1 F1 H1 g1 hx rx m1=>?_⟩
 split at hx
 ·rename_i a
  obtain⟨ds,hm,hR⟩:=hx
  obtain⟨vs,hH,rr⟩:=m1.ok _ _ (bL hm)
  exact⟨.ref a,vs.length,by rw[rep_ptr.mp rx],.inl ⟨vs,SqL.of hH,rfl⟩,h2 _ _ M1 F1 H1 g1 hR (rep_int.mpr (by rw[rr.length])) m1⟩
 ·exact hx.elim⟩
def mIxP(ta tb:TME):TME:=λz M R=>ta z M λx M1=>tb z M1 λy M2=>match x,y with| .ptr a,.int i=>∃ ds,mget M2 a=some (.lst ds)/\∃ d,atI ds i=some d/\R d M2|_,_=>False
theorem zE(ha:ME X a ta)(hb:ME X b tb)(hs:dW b:=by exact λ_ _=>rfl):ME X (.Subscript a b pos) (mIxP ta tb):=⟨(pe_ix ix_list ha.out hb.out hs).anti λs H Q h=>by
 obtain⟨F,z,M,k,rs,R,h1,h2⟩:=h
 refine⟨F,z,M,k,rs,_,h1,λx u M1 F1 H1 g1 hx rx m1=>?_⟩
 refine⟨F1,z,M1,k.growM rs.mb g1,rs.growM k.bh g1 m1,_,hx,λy v M2 F2 H2 g2 hy ry m2=>?_⟩
 split at hy
 ·rename_i p i
  obtain⟨ds,hm,d,hd,hR⟩:=hy
  obtain⟨vs,hH,rr⟩:=m2.ok _ _ (bL hm)
  obtain⟨w,e2,g8⟩:=rr.at hd
  exact⟨p,vs,_,w,rep_ptr.mp rx,rep_int.mp ry,SqL.of hH,e2,h2 d w M2 F2 H2 (g1.trans g2) hR g8 m2⟩
 ·exact hy.elim⟩
def zF(to te:TME):TME:=λz M R=>to z M λo M1=>match o with| .ptr a=>(∃ ds,mget M1 a=some (.lst ds))/\te z M1 λd M2=>∃ ds,mget M2 a=some (.lst ds)/\ds.length<=100000/\R .non (mput M2 a (.lst (ds++[d])))|_=>False
theorem zG{apos cpos:Pos}(ho:ME X o to)(he:ME X e te)(n5:zSE X e []:=by rfl)
  (b9:attributeBase o "append" X.env (eval o X.env)=eval o X.env:=by rfl)
  (d9:zHF X cpos [e]:=by rfl)
  (c7:(apos.endLine==cpos.line)=true:=by rfl):
  ME X (.Call (.Attribute o "append" apos) [e] [] cpos) (zF to te):=⟨(dX PySem.F.plainAttrs_list PySem.F.slot_list_append PySem.F.type_list_append gc ho.out (bj he.out pa_nil n5) b9 d9 c7 n5).anti λs H Q h=>by
 obtain⟨F,z,M,k,rs,R,h1,h2⟩:=h
 refine⟨F,z,M,k,rs,_,h1,λx u M1 F1 H1 g1 hx rx m1=>?_⟩
 split at hx
 ·rename_i a
  obtain⟨⟨Qd,L_⟩,hx⟩:=hx
  obtain⟨O_,Pa,Qe⟩:=m1.ok _ _ (bL L_)
  rw[rep_ptr.mp rx]
  refine⟨.inl ⟨rfl,O_,SqL.of Pa⟩,?_⟩
  refine⟨F1,z,M1,k.growM rs.mb g1,rs.growM k.bh g1 m1,_,hx,λd v M2 F2 H2 g2 hd rd m2=>?_⟩
  obtain⟨ds,hm,hl,hR⟩:=hd
  obtain⟨vs,hH,rr⟩:=m2.ok _ _ (bL hm)
  have hz:vs.length<sizeLine:=by
   rw[rr.length]
   have h2:(100000:Nat)<sizeLine:=by decide
   lia
  refine⟨a,vs,v,rfl,rfl,hH,hz,?_⟩
  exact h2 _ _ _ F2 _ (g1.trans (g2.trans (GrowM.put g2.fh (m2.fr a (cj (bL hm))) hm))) hR (rep_non.mpr rfl) (m2.put hm ⟨_,az,rr.append (eA rd)⟩)
 ·exact hx.elim⟩
def frzD:MO->D| .ins x fs=> .obj x fs| .lst ds=> .lst ds| .dti a8=> .dti a8
def mFrz(i:Nat)(t:TMS):TMS:=λE z M=>match z[i]? with|some (some (.ptr a))=>∃ o,mget M a=some o/\t E (z.set i (some (frzD o))) (mdel M a)|_=>False
theorem rK(i:Nat){J8:List Stmt}(h:MSs X J8 t):MSs X J8 (mFrz i t):=⟨PSs.anti h.out λE s H q=>by
 obtain⟨F0,F,z,M,k,rs,ED,h,e⟩:=q
 unfold mFrz at h
 split at h
 ·rename_i a ez
  obtain⟨o,hm,h⟩:=h
  have mem:=bL hm
  have fa:=rs.rm.fr a (cj mem)
  have ba:=rs.mb a (cj mem)
  obtain⟨v,hv,rv⟩:=rs.rs.val i _ ez rfl
  have Pb:=rep_ptr.mp rv
  subst Pb
  have hok:=rs.rm.ok a o mem
  obtain⟨ho,f8,Ma⟩:∃ ho,H a=some ho/\∀ F',Same F F'->F' a=some ho->Rep X.K F' (frzD o) (.ref a):=by
   cases o with
   |ins x fs=>obtain⟨C,dx,ws,n,h1,h2⟩:=hok;exact⟨_,h1,λF' s' hF=>rep_obj.mpr ⟨a,C,dx,ws,rfl,n,hF,RepF.mono s' fs ws h2⟩⟩
   |lst ds=>obtain⟨vs,h1,h2⟩:=hok;exact⟨_,h1,λF' s' hF=>rep_lst.mpr ⟨a,vs,rfl,hF,h2.mono s'⟩⟩
   |dti a8=>exact⟨_,hok,λF' s' hF=>rep_dti.mpr ⟨a,rfl,hF⟩⟩
  have s1:Same F (upd F a ho):=aQ fa _
  have hs:s.set i (some (.ref a))=s:=by
   apply Gn
   intro n
   by_cases hn:i=n
   ·subst hn
    rw[FG (Fb.mp hv).1,hv]
   ·rw[Ff hn]
  have k1:Kept J.B F0 (upd F a ho) H:=⟨k.bh,λb u q=>by
   by_cases hb:b=a
   ·subst hb;rw[az] at q;cases q;exact f8
   ·rw[ao hb] at q;exact k.fh b u q,k.f0.trans s1,λb h1 h2=>by
   by_cases hb:b=a
   ·subst hb;exact absurd ba h2
   ·rw[ao hb];exact k.out b h1 h2,k.eb,k.jf,k.jo⟩
  have r0:RepS X.K J.B (upd F a ho) H z s:=⟨rs.rs.len,λi d e n=>let ⟨v,q1,q2⟩:=rs.rs.val i d e n;⟨v,q1,q2.mono s1⟩,λi ds e=>absurd e (rs.no i ds),rs.rs.apart⟩
  have Pc:RepM X.K (upd F a ho) H (mdel M a):=⟨rs.rm.nd.sublist del_sub,λb q hb=>by
   obtain⟨ne,hb⟩:=jT rs.rm.nd hb
   exact(rs.rm.ok b q hb).mono s1 λ_ z=>z,λb hb=>by
   obtain⟨⟨b',q⟩,gt,rfl⟩:=Fq.mp hb
   obtain⟨ne,Kl⟩:=jT rs.rm.nd gt
   rw[ao ne];exact rs.rm.fr _ (cj Kl)⟩
  have z0:RepZ X.K J.B (upd F a ho) H z s (mdel M a):=⟨r0,rs.no,Pc,λb hb=>rs.mb b (del_sub.subset hb)⟩
  have z1:=z0.set (i:=i) (Ma _ s1 az)
  rw[hs] at z1
  exact⟨F0,_,_,_,k1,z1,ED,h,e⟩
 ·exact h.elim⟩
end
theorem rL{K:Ex}{F:Hp}{N:List Str}{ds:List D}{vs:List V}(rs:Reps K F ds vs):∀ (i:Nat) d,(startD N ds)[i]?≠some (some (.own d)):=by
 intro i d e
 unfold startD at e
 by_cases hi:i<ds.length
 ·rw[FH (by simpa using hi),E8] at e
  cases q:ds[i]? with
  |none=>rw[q] at e;cases e
  |some x=>
   rw[q] at e;cases e
   obtain⟨v,_,q2⟩:=rs.get q
   exact rep_own q2
 ·rw[FW (by simpa using hi),GV] at e
  split at e
  ·cases e
  ·cases e
theorem growM_nil{M':MS}{F H F' H':Hp}(g:GrowM [] M' F H F' H'):Grow F H F' H':=⟨g.ff,g.fh,λb o h=>g.hh b o (λz=>nomatch z) h,λb h1 h2=>g.out b (λz=>nomatch z) h1 h2⟩
section
variable {P:Program}{w:World}{K:Ex}{mg:Str->Option Value}{base:Heap}
theorem CalMM.toX{n:Nat}{x:Str}{ps:List Str}{S:SpM}{S0:SpX}(C:CalMM P w K mg base n x ps S)(h:∀ ds R RX,S0 ds R RX->S ds [] (λd _=>R d) λx fs _=>RX x fs):CalX P w K mg base n x ps S0:=by
 obtain⟨f,fd,F,hb,hk,hm⟩:=C
 refine⟨f,fd,F.imp λvs H Q E q=>?_,hb,hk,hm⟩
 obtain⟨F,ds,fh,rs,R,RX,hS,q1,q2⟩:=q
 exact⟨F,ds,[],fh,rs,RepM.nil,_,_,h ds R RX hS,λd v M' F' H' g hd rd _=>q1 d v F' H' (growM_nil g) hd rd,λy fs C od M' F' H' g hR er _=>q2 y fs C od F' H' (growM_nil g) hR er⟩
open Classical in
theorem Fun.okM{x qual:Str}{st:Stmt}{f:Addr}{fd:FuncData}{N ps:List Str}{k:Nat}{S:SpM}(T:Fun K x qual st f fd)(F:FnScope N ps (ag st))(len:∀ ds M R RX,S ds M R RX->ds.length=ps.length)
  (a_:∀ (cdv:Value) (A:Around) (outer:List Env) (s:Shared) (H:Hp) (E:XK) (J:Jm),Room k (A.deeper (envOfC qual (ag st) s.heap.objs.size f cdv))->XOkM (cxOf (CX1 P w) P w K mg base N qual (ag st) f cdv A outer s H E)->
   ∃ t,MSs (cxOf (CX1 P w) P w K mg base N qual (ag st) f cdv A outer s H E) (aH st) t/\∀ ds M R RX,(∀ z,J.RM z=λM' x fs=>RX x fs M')->S ds M R RX->t {nx:=λ_ M'=>R .non M',rt:=R} (startD N ds) M):FnOk P w K mg base (CX1 P w) (k+1) f fd ps (lSpM K S):=by
 refine Fun.okC T F (λvs H Q E h=>?_) (λcdv A outer s H vs Q E hr h=>?_)
 ·obtain⟨F,ds,M,fh,rs,rm,R,RX,h,_⟩:=h
  rw[rs.length];exact len ds M R RX h
 ·obtain⟨F,ds,M,fh,rs,rm,R,RX,h,q,qx⟩:=h
  let B:Hp:=λb=>if b∈aw M then none else H b
  have NR:∀ {b:Addr},b∈aw M->B b=none:=λ{b} h=>if_pos h
  have K8:∀ {b:Addr},b ∉ aw M->B b=H b:=λ{b} h=>if_neg h
  letI:Jm:={B:=B,F0:=F,RX:=λ_ _ _=>False,RM:=λ_ M' x fs=>RX x fs M'}
  have gr:∀ {M':MS} {F' H':Hp},Kept B F F' H'->(∀ a,a∈aw M'->B a=none)->GrowM M M' F H F' H':=λ{M' F' H'} k mb=>⟨k.f0,k.fh,λb o nb e=>k.bh b o (by rw[K8 nb];exact e),λb nb h1 h2=>k.out b h1 (by rw[K8 nb];exact h2),λb hb=>by
   by_cases nb:b∈aw M
   ·exact .inl nb
   ·right;rw[<- K8 nb];exact mb b hb⟩
  have hx:XOkM (cxOf (CX1 P w) P w K mg base N qual (ag st) f cdv A outer s H E):=by
   intro σ z M' F' H' s' e C od y fs I kk rr hR er ⟨He,ne,_,hx⟩
   have hE:E (.ref C) od H':=qx y fs C od M' F' H' (gr kk rr.mb) hR er rr.rm
   rcases hx with⟨sl,vs,h1,h2⟩|⟨T,h1,h2,h3,_⟩
   ·exact qm I h1 h2 He ne hE
   ·exact rb I h1 ne h2 He h3 hE
  obtain⟨t,ht,hq⟩:=a_ cdv A outer s H E inferInstance hr hx
  have k0:Kept B F F H:=⟨λb o e=>by
   by_cases nb:b∈aw M
   ·rw[NR nb] at e;cases e
   ·rw[K8 nb] at e;exact e,fh,Same.refl F,λ_ h _=>h,rfl,Same.refl F,λ_ h _=>h⟩
  have r0:RepZ K B F H (startD N ds) (L2.start N vs) M:=⟨dY rs,rL rs,rm,λa h=>NR h⟩
  exact⟨_,ht.out,F,F,startD N ds,M,k0,r0,_,hq ds M R RX (λ_=>rfl) h,⟨λz' s' M' F' H' k hn r=>q _ _ M' F' H' (gr k r.mb) hn (rep_non.mpr rfl) r.rm,λd v M' F' H' k hd rd NS mb=>q d v M' F' H' (gr k mb) hd rd NS,λ_ _ _ _ _ _ h _=>h.elim,λ_ _ _ _ _ _ h _=>h.elim⟩⟩
theorem Tx.okM{x:Str}{st:Stmt}{N ps:List Str}{k:Nat}{S:SpM}(T:Tx K mg x st ps)(F:FnScope N ps (ag st))(len:∀ ds M R RX,S ds M R RX->ds.length=ps.length)
  (a_:∀ (f:Addr) (cdv:Value) (A:Around) (outer:List Env) (s:Shared) (H:Hp) (E:XK) (J:Jm),Room k (A.deeper (envOfC x (ag st) s.heap.objs.size f cdv))->XOkM (cxOf (CX1 P w) P w K mg base N x (ag st) f cdv A outer s H E)->
   ∃ t,MSs (cxOf (CX1 P w) P w K mg base N x (ag st) f cdv A outer s H E) (aH st) t/\∀ ds M R RX,(∀ z,J.RM z=λM' x fs=>RX x fs M')->S ds M R RX->t {nx:=λ_ M'=>R .non M',rt:=R} (startD N ds) M):CalMM P w K mg base (k+1) x ps S:=by
 obtain⟨f,fd,T,hb,hm⟩:=T
 exact⟨f,fd,Fun.okM T F len λcdv A outer s H E J hr hx=>a_ f cdv A outer s H E J hr hx,hb,T.kp,hm⟩
def Txm(K:Ex)(x m:Str)(qual:Str)(st:Stmt)(ps:List Str):Prop:=
 ∃ C f fd,nsIn K mainGlobals x=some (some (.ref C))/\Cls K C/\Meth K C m f/\Fun K m qual st f fd/\Binds K fd ps []
theorem Txm.okM{x m qual:Str}{st:Stmt}{N ps:List Str}{k:Nat}{S:SpM}(T:Txm K x m qual st ps)(F:FnScope N ps (ag st))(len:∀ ds M R RX,S ds M R RX->ds.length=ps.length)
  (a_:∀ (f:Addr) (cdv:Value) (A:Around) (outer:List Env) (s:Shared) (H:Hp) (E:XK) (J:Jm),Room k (A.deeper (envOfC qual (ag st) s.heap.objs.size f cdv))->XOkM (cxOf (CX1 P w) P w K mg base N qual (ag st) f cdv A outer s H E)->
   ∃ t,MSs (cxOf (CX1 P w) P w K mg base N qual (ag st) f cdv A outer s H E) (aH st) t/\∀ ds M R RX,(∀ z,J.RM z=λM' x fs=>RX x fs M')->S ds M R RX->t {nx:=λ_ M'=>R .non M',rt:=R} (startD N ds) M):CalMth P w K mg base (k+1) x m ps (lSpM K S):=by
 obtain⟨C,f,fd,h1,h2,h3,T,hb⟩:=T
 exact⟨C,f,fd,h1,h2,h3,Fun.okM T F len λcdv A outer s H E J hr hx=>a_ f cdv A outer s H E J hr hx,hb⟩
end
end My
namespace L2
section
variable {X:Cx}{pins:List (Addr × Obj)}{σ:St}{H:Hp}{s:Shared}{h':Heap}
theorem Inv.turned2{t':Nat}{e it:Addr}(I:Inv X pins σ H s)(k:∀ b o,b≠e->b≠it->s.heap.get? b=some o->h'.get? b=some o)(he:FpOk X pins H e)(hi:FpOk X pins H it):Inv X pins σ H {s with heap:=h',toks:=t'}:=by
 obtain⟨e0,e1,e2,e3,e4,e5⟩:=he
 obtain⟨i0,i1,i2,i3,i4,i5⟩:=hi
 have IK:∀ b u,H b=some u->b≠e/\b≠it:=λb u q=>⟨(λz=>by rw[z,e0] at q;cases q),(λz=>by rw[z,i0] at q;cases q)⟩
 have nc:∀ {b:Addr},b ∉ [e,it]->b≠e/\b≠it:=λ{b} h=>⟨λz=>h (by simp[z]),λz=>h (by simp[z])⟩
 refine I.step (g':=s.gens) (d':=s.drawn) (ch:=[e,it]) (λb hb=>?_) (λb o _ _ hc q _=>k b o (nc hc).1 (nc hc).2 q) (λb o _ _ hc q _=>⟨o.slots,k b o (nc hc).1 (nc hc).2 q⟩) (λ_ _ _ _ n=>n)
  (λb o hc q=>⟨o,k b o (nc hc).1 (nc hc).2 q⟩) (λ_ _ q=>q) (λ_ _ _ q=>q) (λb ps q=>⟨#[],by rw[q];simp⟩) (λm hm=>?_) (λb u q=>?_) I.bare
 ·rcases EU.mp hb with z|z
  ·rw[z];exact⟨e3,e1,e4,e5⟩
  ·rw[ES.mp z];exact⟨i3,i1,i4,i5⟩
 ·obtain⟨o,es,ep,ho,r⟩:=hm
  exact⟨o,es,ep,k _ o (Ne.symm e1) (Ne.symm i1) ho,r⟩
 ·refine(I.hok b u q).stay (λc v hc q'=>k c v ?_ ?_ q') (λ_ q=>q) λ_ _ q=>q
  ·rcases hc with z|z
   ·rw[z];exact(IK b u q).1
   ·exact(IK c _ z).1
  ·rcases hc with z|z
   ·rw[z];exact(IK b u q).2
   ·exact(IK c _ z).2
end
def Itel(K:Ex)(a:Addr):It:=
 ⟨λi H=>∃ xs x,SqL K H a xs/\xs[i]?=some x,λi H x H'=>∃ T v,H T=none/\x= .ref T/\H'=upd H T (.tup [.int i,v])/\∀ xs,SqL K H a xs->xs[i]?=some v,λi H=>∃ xs,SqL K H a xs/\xs.length<=i⟩
def Ites(x:Str):It:=⟨λi _=>i<x.length,λi H v H'=>∃ T c,H T=none/\v= .ref T/\H'=upd H T (.tup [.int i,.str ⟨#[c]⟩])/\x.cps[i]?=some c,λi _=>i=x.length⟩
theorem zH{P:Program}{w:World}{H:Hp}{h:Heap}{T:Addr}{i:Int}{t:Tok}{v:V}{u:Value}(r:RelV v u)(q:h.get? T=some {cls:= .type "tuple",data:= .seq #[.int i t,u]}):ObjOk P w H h T (.tup [.int i,v]):=
 ⟨by show 2<=sizeLine;decide,[.int i t,u],.cons ⟨t,rfl⟩ (.cons r .nil),⟨_,q,rfl,_,rfl⟩⟩
theorem rM{X:Cx}{pins:List (Addr × Obj)}{σ:St}{H:Hp}{s:Shared}{h':Heap}{t':Nat}{e it:Addr}{i:Int}{t:Tok}{v:V}{u:Value}(I:Inv X pins σ H s)(he:FpOk X pins H e)(hi:FpOk X pins H it)(le:e<s.heap.objs.size)(li:it<s.heap.objs.size)(r:RelV v u)
  (hT:h'.get? s.heap.objs.size=some {cls:= .type "tuple",data:= .seq #[.int i t,u]}) (hk:∀ b o,b≠e->b≠it->s.heap.get? b=some o->h'.get? b=some o):Inv X pins σ (upd H s.heap.objs.size (.tup [.int i,v])) {s with heap:=h',toks:=t'}:=by
 have I1:Inv X pins σ (upd H s.heap.objs.size (.tup [.int i,v])) {s with heap:=s.heap.push {cls:= .type "tuple",data:= .seq #[.int i t,u]},toks:=t'}:=
  I.laid (λb o q=>Heap.get?_push_of_some _ q) (ER _) (zH r (Heap.get?_push_size _ rfl))
 have fp:∀ {b:Addr},FpOk X pins H b->b<s.heap.objs.size->FpOk X pins (upd H s.heap.objs.size (.tup [.int i,v])) b:=λ{b} h l=>⟨by rw[ao (E3 l)];exact h.1,h.2⟩
 refine I1.turned2 (h':=h') (t':=t') (λb o h1 h2 q=>?_) (fp he le) (fp hi li)
 rcases Heap.get?_push_cases (show(s.heap.push {cls:= .type "tuple",data:= .seq #[.int i t,u]}).get? b=some o from q) with⟨rfl,rfl⟩|q2
 ·exact hT
 ·exact hk b o h1 h2 q2
theorem zI{P:Program}{w:World}{K:Ex}{q_:List Expr}{x1:Nat}{tp:Pos}(a e it:Addr)(Ju:e≠it):Turn P w K (.Tuple q_ x1 tp) (Itel K a) [e,it] e (λi h=>(∃ d8,IsEnum h e it i d8)/\h.IsListIter it a i) where
 mem:=by simp
 obj:=λi h st b hb=>by
  obtain⟨⟨d8,he⟩,hit⟩:=st
  rcases EU.mp hb with z|z
  ·rw[z];exact⟨_,he,λv z=>by cases z⟩
  ·rw[ES.mp z]
   obtain⟨o,ho,c,d⟩:=hit
   exact⟨o,ho,λv z=>by rw[d] at z;cases z⟩
 keep:=λi h h' st k=>⟨let ⟨d8,he⟩:=st.1;⟨d8,k e (by simp) _ he⟩,st.2.at λo q=>k it (by simp) o q⟩
 item:=by
  intro X hP hw hK hc i pins s σ H E I hf st hg
  subst hP hw hK
  obtain⟨xs,x,hq,hx⟩:=hg
  obtain⟨its,rv,p,hz⟩:=I.list hq
  obtain⟨u,hu,ru⟩:=rv.get hx
  obtain⟨⟨d8,he⟩,hit⟩:=st
  have fe:=hf e (by simp)
  have fi:=hf it (by simp)
  have le:e<s.heap.objs.size:=Heap.lt_size he
  have li:it<s.heap.objs.size:=by obtain⟨o,ho,_⟩:=hit;exact Heap.lt_size ho
  refine wpAny_pyNext_enum_item he hit p.isList (x:=u) (by simpa using hu) Ju λh' x_ Je hT g6 hk=>?_
  refine⟨_,rfl,wpAny_letOwnedTupleGo_enum x_ λh2 Mb m5=>?_⟩
  have n_:Heap.SameBut e h' h2:=m5
  have nT:s.heap.objs.size≠e:=FT le
  have I1:Inv X pins σ (upd H s.heap.objs.size (.tup [.int i,x])) {s with heap:=h2,toks:=s.toks+1}:=rM I fe fi le li ru ((n_.2 _ nT).trans hT) λb o h1 h3 q=>(n_.2 b h1).trans (hk b o h1 h3 q)
  refine⟨.ref s.heap.objs.size,_,I1,rfl,⟨_,x,I.hok.fresh (ER _),rfl,rfl,λys hy=>by rw[I.list_inj hy hq];exact hx⟩,⟨⟨u,by simpa using Mb⟩,Je.at λo q=>(n_.2 it (Ne.symm Ju)).trans q⟩,λb hb=>?_⟩
  rcases EU.mp hb with z|z
  ·rw[z,ao (E3 le)];exact fe.1
  ·rw[ES.mp z,ao (E3 li)];exact fi.1
 done:=by
  intro X hP hw hK hc i pins s σ H E I hf st hg
  subst hP hw hK
  obtain⟨xs,hq,hx⟩:=hg
  obtain⟨its,rv,p,hz⟩:=I.list hq
  obtain⟨⟨d8,he⟩,hit⟩:=st
  have hl:=rv.length
  obtain⟨f0,f1,f2,f3,f4,f5⟩:=hf it (by simp)
  exact wpAny_pyNext_enum_end (I.ok.hd hc) he hit p.isList (by simp;lia) λh' eb=>⟨rfl,I.turned (t':=s.toks) (λb o hb q=>eb b o hb q) f0 f1 f3 f4 f5⟩
 self:=λ_ _ _ _ _ st h=>let ⟨⟨d8,he⟩,_⟩:=st;wpAny_pyIter_enum he h
theorem zJ{P:Program}{w:World}{K:Ex}{q_:List Expr}{x1:Nat}{tp:Pos}(x:Str)(t:Tok)(e it:Addr)(Ju:e≠it):Turn P w K (.Tuple q_ x1 tp) (Ites x) [e,it] e (λi h=>(∃ d8,IsEnum h e it i d8)/\h.IsStrIter it "str_ascii_iterator" x t i) where
 mem:=by simp
 obj:=λi h st b hb=>by
  obtain⟨⟨d8,he⟩,hit⟩:=st
  rcases EU.mp hb with z|z
  ·rw[z];exact⟨_,he,λv z=>by cases z⟩
  ·rw[ES.mp z]
   obtain⟨o,ho,c,d⟩:=hit
   exact⟨o,ho,λv z=>by rw[d] at z;cases z⟩
 keep:=λi h h' st k=>⟨let ⟨d8,he⟩:=st.1;⟨d8,k e (by simp) _ he⟩,let ⟨o,ho,r⟩:=st.2;⟨o,k it (by simp) o ho,r⟩⟩
 item:=by
  intro X hP hw hK hc i pins s σ H E I hf st hg
  subst hP hw hK
  have hi:i<x.cps.size:=hg
  obtain⟨⟨d8,he⟩,hit⟩:=st
  have fe:=hf e (by simp)
  have fi:=hf it (by simp)
  have le:e<s.heap.objs.size:=Heap.lt_size he
  have li:it<s.heap.objs.size:=by obtain⟨o,ho,_⟩:=hit;exact Heap.lt_size ho
  refine wpAny_pyNext_enum_itemD (Draws.strAscii (A:=X.A.in1) (by exact I.ok.hd hc) it x t) he hit hi Ju (by simp[Ju]) λu h' tk hP x_ Je hT g6 hk=>?_
  obtain⟨c,tu,Ix,rfl⟩:=hP
  refine⟨_,rfl,wpAny_letOwnedTupleGo_enum x_ λh2 Mb m5=>?_⟩
  have n_:Heap.SameBut e h' h2:=m5
  have nT:s.heap.objs.size≠e:=FT le
  have I1:Inv X pins σ (upd H s.heap.objs.size (.tup [.int i,.str ⟨#[c]⟩])) {s with heap:=h2,toks:=tk+1}:=rM I fe fi le li ⟨tu,rfl⟩ ((n_.2 _ nT).trans hT) λb o h1 h3 q=>(n_.2 b h1).trans (hk b o h1 h3 q)
  refine⟨.ref s.heap.objs.size,_,I1,rfl,⟨_,c,I.hok.fresh (ER _),rfl,rfl,Ix⟩,⟨⟨_,by simpa using Mb⟩,let ⟨o,ho,r⟩:=Je;⟨o,(n_.2 it (Ne.symm Ju)).trans ho,r⟩⟩,λb hb=>?_⟩
  rcases EU.mp hb with z|z
  ·rw[z,ao (E3 le)];exact fe.1
  ·rw[ES.mp z,ao (E3 li)];exact fi.1
 done:=by
  intro X hP hw hK hc i pins s σ H E I hf st hg
  subst hP hw hK
  have hi:i=x.cps.size:=hg
  subst hi
  obtain⟨⟨d8,he⟩,hit⟩:=st
  obtain⟨f0,f1,f2,f3,f4,f5⟩:=hf it (by simp)
  exact wpAny_pyNext_enum_endD (Draws.strAscii (A:=X.A.in1) (by exact I.ok.hd hc) it x t) he hit λh' eb=>⟨rfl,I.turned (t':=s.toks) (λb o hb q=>eb b o hb q) f0 f1 f3 f4 f5⟩
 self:=λ_ _ _ _ _ st h=>let ⟨⟨d8,he⟩,_⟩:=st;wpAny_pyIter_enum he h
def iEnL(K:Ex)(ta:TA):TI:=λσ H R=>ta σ H λvs H1=>∃ a,vs=[.ref a]/\(∃ xs,SqL K H1 a xs)/\R (Itel K a) H1
def iEnS(ta:TA):TI:=λσ H R=>ta σ H λvs H1=>∃ x,vs=[.str x]/\x.cps.all (·<128)=true/\R (Ites x) H1
section
variable {X:Cx}{q_:List Expr}{x1:Nat}{tp p pos:Pos}{l:Expr}{ta:TA}
theorem rN(hg:Gl X "enumerate")(hm:X.mg "enumerate"=none)(ha:PA X [l] ta)(hs:starEach [l] X.env=[(false,eval l X.env)]:=by rfl):PI X (.Tuple q_ x1 tp) (.Call (.Name "enumerate" p) [l] [] pos) (iEnL X.K ta):=by
 intro pins s σ H R I h
 refine Call_ (dv I hg hm PyProof.Rows.boot_enumerate (PyProof.Rows.callWith_type1 (thn (ha pos pins s σ H _ I h) λus s1 ⟨vs,H1,I1,r1,q1⟩=>?_) hs rfl))
 obtain⟨a,rfl,⟨xs,hq⟩,q⟩:=q1
 obtain⟨u,rfl,ru⟩:=bD r1
 cases ru
 obtain⟨its,rv,pl,hz⟩:=I1.list hq
 refine call_enumerate_list pl.isList λh' he hit g6 hk=>?_
 have I2:Inv X pins σ H1 {s1 with heap:=h'}:=I1.kept (t':=s1.toks) hk
 refine wpAny_pyIter_enum he ?_
 have ne:s1.heap.objs.size+1≠s1.heap.objs.size:=HG _
 refine⟨s1.heap.objs.size+1,[s1.heap.objs.size+1,s1.heap.objs.size],_,_,H1,rfl,I2,zI a _ _ ne,⟨⟨_,he⟩,hit⟩,λb hb=>?_,q⟩
 rcases EU.mp hb with z|z
 ·rw[z];exact I1.fpOk (FV _) (I1.hok.fresh (FV _))
 ·rw[ES.mp z];exact I1.fpOk (ER _) (I1.hok.fresh (ER _))
theorem rO(hg:Gl X "enumerate")(hm:X.mg "enumerate"=none)(ha:PA X [l] ta)(hs:starEach [l] X.env=[(false,eval l X.env)]:=by rfl):PI X (.Tuple q_ x1 tp) (.Call (.Name "enumerate" p) [l] [] pos) (iEnS ta):=by
 intro pins s σ H R I h
 refine Call_ (dv I hg hm PyProof.Rows.boot_enumerate (PyProof.Rows.callWith_type1 (thn (ha pos pins s σ H _ I h) λus s1 ⟨vs,H1,I1,r1,q1⟩=>?_) hs rfl))
 obtain⟨x,rfl,Mc,q⟩:=q1
 obtain⟨u,rfl,t,rfl⟩:=bD r1
 refine call_enumerate_str λh' he hit g6 hk=>?_
 have I2:Inv X pins σ H1 {s1 with heap:=h'}:=I1.kept (t':=s1.toks) hk
 refine wpAny_pyIter_enum he ?_
 have ne:s1.heap.objs.size+1≠s1.heap.objs.size:=HG _
 have Pd:strIterType x="str_ascii_iterator":=by unfold strIterType;rw[Mc];rfl
 rw[Pd] at hit
 refine⟨s1.heap.objs.size+1,[s1.heap.objs.size+1,s1.heap.objs.size],_,_,H1,rfl,I2,zJ x t _ _ ne,⟨⟨_,he⟩,hit⟩,λb hb=>?_,q⟩
 rcases EU.mp hb with z|z
 ·rw[z];exact I1.fpOk (FV _) (I1.hok.fresh (FV _))
 ·rw[ES.mp z];exact I1.fpOk (ER _) (I1.hok.fresh (ER _))
end
end L2
namespace My
open Exc
section
variable {X:Cx}[J:Jm]{a b c e o:Expr}{ta tb tc te to:TME}{pos:Pos}{st:Stmt}{rest:List Stmt}{t u:TMS}
theorem rP{K:Ex}{F:Hp}:∀ (is:List Nat) (ds:List D) (vs:List V) (z:SD),Reps K F ds vs->(∀ (i:Nat) d,z[i]?≠some (some (.own d)))->∀ (i:Nat) d,(aS is ds z)[i]?≠some (some (.own d))
 |[],_,_,z,_,h=>h
 |_::_,[],_,z,_,h=>h
 |i::is,d::ds,vs,z,r,h=>by
  obtain⟨v,vr,rfl,r1,r2⟩:=reps_cons.mp r
  refine rP is ds vr _ r2 λj q e=>?_
  by_cases hj:i=j
  ·subst hj
   rw[Ga] at e
   simp at e
   have:=r1.noown
   rw[e.2] at this
   cases this
  ·rw[Ff hj] at e
   exact h j q e
def mItE(t:TME):TMI:=λz M R=>t z M λx M1=>match x with| .lst ds=>R ds M1|_=>False
def zK(t:TME):TMI:=λz M R=>t z M λx M1=>match x with| .str x=>x.cps.all (·<128)=true/\R (bP x) M1|_=>False
def rQ(is:List Nat)(ti:TMI)(tb:TMS):TMS:=λE z M=>ti z M λds M1=>∃ W:Nat->SD->MS->Prop,W 0 z M1/\(∀ (k:Nat) x z M,ds[k]?=some x->W k z M->tb {E with nx:=W (k+1),ct:=W (k+1),bk:=E.nx} (aS is [.int k,x] z) M)/\∀ z M,W ds.length z M->E.nx z M
theorem rR{K:Ex}{F0 F1 H1:Hp}{z:SD}{s:L2.St}{M1:MS}{E:Ends}{ED:EndsM}{It':It}{g:TG}{tb:TMS}{tbv:TS}{ds:List D}{is:List Nat}(hK:K=X.K)(k1:Kept J.B F0 F1 H1)(t6:RepZ K J.B F1 H1 z s M1)(e:EndsOkM K F0 ED E)(b7:is.length=2)
  (go:∀ k F' H',Same F1 F'->Same F' H'->k<ds.length->It'.go k H') (stop:∀ F' H',Same F1 F'->Same F' H'->It'.stop ds.length H')
  (yld:∀ k F' H' x H'',Same F1 F'->Same F' H'->k<ds.length->It'.yld k H' x H''->∃ T d v,H' T=none/\x= .ref T/\H''=upd H' T (.tup [.int k,v])/\ds[k]?=some d/\Rep K F' d v)
  (hg:∀ (dd:List D) (vs:List V) (T:Addr) (z:SD) (s:L2.St) (F H:Hp) (Q:L2.St->Hp->Prop),dd.length=2->H T=some (.tup vs)->Reps K F dd vs->RepS K J.B F H z s->(∀ s',RepS K J.B F H (aS is dd z) s'->Q s' H)->g (.ref T) s H Q)
  (Md:∀ E s H,mS K tb E s H->tbv E s H)
  (hd:∃ W:Nat->SD->MS->Prop,W 0 z M1/\(∀ (k:Nat) x z M,ds[k]?=some x->W k z M->tb {ED with nx:=W (k+1),ct:=W (k+1),bk:=ED.nx} (aS is [.int k,x] z) M)/\∀ z M,W ds.length z M->ED.nx z M):
  ∃ W:Nat->Nat->L2.St->Hp->Prop,(∃ m,W 0 m s H1)/\∀ i m σ H,W i m σ H->
   (It'.stop i H/\E.nx σ H)\/(It'.go i H/\∃ N:L2.St->Hp->Prop,(∀ σ' H',N σ' H'->∃ m',m'<m/\W (i+1) m' σ' H')/\∀ x H',It'.yld i H x H'->g x σ H' λσ2 H2=>tbv {E with nx:=N,ct:=N,bk:=E.nx} σ2 H2):=by
 obtain⟨W,w0,c5,out⟩:=hd
 refine⟨λk m s' H'=>m=ds.length - k/\k<=ds.length/\∃ F' z' M',Kept J.B F0 F' H'/\Same F1 F'/\RepZ K J.B F' H' z' s' M'/\W k z' M',⟨ds.length,by simp,Fp _,F1,z,M1,k1,Same.refl F1,t6,w0⟩,?_⟩
 rintro k m s' H' ⟨rfl,hk,F',z',M',k',g',r',w'⟩
 by_cases gV:k<ds.length
 ·refine .inr ⟨go k F' H' g' k'.fh gV,λs3 H3=>∃ F3 z3 M3,Kept J.B F0 F3 H3/\Same F1 F3/\RepZ K J.B F3 H3 z3 s3 M3/\W (k+1) z3 M3,λs3 H3 h3=>⟨ds.length - (k+1),by lia,rfl,gV,h3⟩,λx H'' hy=>?_⟩
  obtain⟨T,d,v,hT,rfl,rfl,hd,rd⟩:=yld k F' H' x H'' g' k'.fh gV hy
  have gn:=Grow.new k'.fh hT (.tup [.int k,v])
  have k2:=k'.grow gn
  have r2:=r'.growM k'.bh gn.toM (r'.rm.grow gn)
  have rp:Reps K (upd F' T (.tup [.int k,v])) [.int k,d] [.int k,v]:=reps_cons.mpr ⟨_,_,rfl,rep_int.mpr rfl,eA (rd.mono gn.ff)⟩
  refine hg [.int k,d] _ T z' s' _ _ _ rfl az rp r2.rs λs2 Jt=>Md _ _ _ ?_
  have gF:Same F1 (upd F' T (.tup [.int k,v])):=g'.trans gn.ff
  refine⟨upd F' T (.tup [.int k,v]),upd F' T (.tup [.int k,v]),_,M',⟨k2.bh,k2.fh,Same.refl _,λb h1 _=>h1,k2.eb,k2.jf.trans k2.f0,λb h1 h2=>k2.out b (k2.jo b h1 h2) h2⟩,⟨Jt,rP is _ _ z' rp r2.no,r2.rm,r2.mb⟩,_,c5 k d z' M' hd w',?_⟩
  have up:∀ {F3 H3:Hp},Kept J.B (upd F' T (.tup [.int k,v])) F3 H3->Kept J.B F0 F3 H3:=λk3=>⟨k3.bh,k3.fh,k2.f0.trans k3.f0,λb h1 h2=>k3.out b (k2.out b h1 h2) h2,k2.eb,k2.jf,k2.jo⟩
  exact⟨λz3 s3 M3 F3 H3 k3 h3 r3=>⟨F3,z3,M3,up k3,gF.trans k3.f0,r3,h3⟩,λd v M3 F3 H3 k3=>e.rt d v M3 F3 H3 (up k3),λz3 s3 M3 F3 H3 k3=>e.nx z3 s3 M3 F3 H3 (up k3),λz3 s3 M3 F3 H3 k3 h3 r3=>⟨F3,z3,M3,up k3,gF.trans k3.f0,r3,h3⟩⟩
 ·have ek:k=ds.length:=by lia
  subst ek
  exact .inl ⟨stop F' H' g' k'.fh,e.nx z' s' M' F' H' k' (out z' M' w') r'⟩
theorem zL{es:List Expr}{x1:Nat}{tp p1 p2:Pos}{is:List Nat}{body:List Stmt}{tb:TMS}(hp:PassesOwn (model X.prog X.w) X.A X.env X.xe)(hc:X.calm=true)(hm:X.mg "enumerate"=none)(he:ME X e te)(hG:DGs X es is)(hb:MSs X body tb)(b7:is.length=2:=by rfl)(hg:Gl X "enumerate":=by rfl)
  (hn:(assignEach es X.env).length=2:=by rfl) (k_:(assignEach es X.env).findIdx? (·.1)=none:=by rfl)
  (hs:∀ y,zFS X (.Call (.Name "enumerate" p1) [e] [] p2) y:=by exact λ_=>rfl) (j_:zSE X e []:=by rfl) (d_:starEach [e] X.env=[(false,eval e X.env)]:=by rfl):
  MSt X (.For (.Tuple es x1 tp) (.Call (.Name "enumerate" p1) [e] [] p2) body [] pos) (rQ is (mItE te) tb):=by
 obtain⟨ug,Jf,kk⟩:=hG
 refine⟨(cO hp hc (rN hg hm (bj he.out pa_nil j_) d_) (fo hc Jf hn k_) hb.out hs).anti λE s H q=>?_⟩
 obtain⟨F0,F,z,M,kp,rs,ED,h,e⟩:=q
 refine⟨F,z,M,kp.kf,rs,_,h,λd v M1 F1 H1 g1 hd rd m1=>?_⟩
 split at hd
 ·rename_i ds
  obtain⟨p,vs,rfl,hq,rr⟩:=rep_lst.mp rd
  refine⟨p,rfl,⟨vs,SqL.of (g1.fh _ _ hq)⟩,rR (It':=Itel X.K p) rfl (kp.growM rs.mb g1) (rs.growM kp.bh g1 m1) e b7 (λk F' H' s1 s2 hk=>?_) (λF' H' s1 s2=>?_) (λk F' H' x H'' s1 s2 hk hy=>?_) (λdd l_ T z s F H Q hl hT rp y' hQ=>?_) (λ_ _ _ h=>h) hd⟩
  ·have n8:k<vs.length:=by rw[rr.length];exact hk
   exact⟨vs,vs[k],SqL.of (s2 _ _ (s1 _ _ hq)),by simp[n8]⟩
  ·exact⟨vs,SqL.of (s2 _ _ (s1 _ _ hq)),by rw[rr.length];exact ER _⟩
  ·obtain⟨T,v,hT,e1,e2,hv⟩:=hy
   obtain⟨d,hd,rd⟩:=rr.get' (hv vs (SqL.of (s2 _ _ (s1 _ _ hq))))
   exact⟨T,d,v,hT,e1,e2,hd,rd.mono s1⟩
  ·exact⟨T,l_,rfl,SqT.of hT,by rw[rp.length];exact hl,kk dd l_ z s J.B F H Q (by rw[hl,b7]) rp y' hQ⟩
 ·exact hd.elim
theorem zM{es:List Expr}{x1:Nat}{tp p1 p2:Pos}{is:List Nat}{body:List Stmt}{tb:TMS}(hp:PassesOwn (model X.prog X.w) X.A X.env X.xe)(hc:X.calm=true)(hm:X.mg "enumerate"=none)(he:ME X e te)(hG:DGs X es is)(hb:MSs X body tb)(b7:is.length=2:=by rfl)(hg:Gl X "enumerate":=by rfl)
  (hn:(assignEach es X.env).length=2:=by rfl) (k_:(assignEach es X.env).findIdx? (·.1)=none:=by rfl)
  (hs:∀ y,zFS X (.Call (.Name "enumerate" p1) [e] [] p2) y:=by exact λ_=>rfl) (j_:zSE X e []:=by rfl) (d_:starEach [e] X.env=[(false,eval e X.env)]:=by rfl):
  MSt X (.For (.Tuple es x1 tp) (.Call (.Name "enumerate" p1) [e] [] p2) body [] pos) (rQ is (zK te) tb):=by
 obtain⟨ug,Jf,kk⟩:=hG
 refine⟨(cO hp hc (rO hg hm (bj he.out pa_nil j_) d_) (fo hc Jf hn k_) hb.out hs).anti λE s H q=>?_⟩
 obtain⟨F0,F,z,M,kp,rs,ED,h,e⟩:=q
 refine⟨F,z,M,kp.kf,rs,_,h,λd v M1 F1 H1 g1 hd rd m1=>?_⟩
 split at hd
 ·rename_i x
  obtain⟨ha,hd⟩:=hd
  have hl:=gM x
  refine⟨x,by rw[rep_str.mp rd],ha,rR (It':=Ites x) rfl (kp.growM rs.mb g1) (rs.growM kp.bh g1 m1) e b7 (λk F' H' s1 s2 hk=>?_) (λF' H' s1 s2=>?_) (λk F' H' x H'' s1 s2 hk hy=>?_) (λdd l_ T z s F H Q hl hT rp y' hQ=>?_) (λ_ _ _ h=>h) hd⟩
  ·rw[hl] at hk;exact hk
  ·exact hl
  ·obtain⟨T,c,hT,e1,e2,hc⟩:=hy
   exact⟨T,.str ⟨#[c]⟩,.str ⟨#[c]⟩,hT,e1,e2,jR hc,rep_str.mpr rfl⟩
  ·exact⟨T,l_,rfl,SqT.of hT,by rw[rp.length];exact hl,kk dd l_ z s J.B F H Q (by rw[hl,b7]) rp y' hQ⟩
 ·exact hd.elim
end
end My
namespace L2
section
variable {prog:Program}{w:World}{K:Type}[DecidableEq K]{k6:HeapKind prog w K}{A:Around}{E:Value->Shared->Prop}{s:Shared}{d a:Addr}{k:K}{xs:List (K × Addr × Value)}
theorem zN{v:Value}{Q:Value->Shared->Prop}(hu:k6.room A)(m9:k6.is s.heap k a)(hm:s.heap.DictOfH k6 d xs)
  (h1:∀ p,atKey xs k=some p->Q p.2 {s with toks:=s.toks+k6.draws k})
  (h2:atKey xs k=none->∀ h',h'.DictOfH k6 d (xs++[(k,a,v)])->Heap.SameBut d s.heap h'->Q v {s with heap:=h',toks:=s.toks+k6.draws k})
  (g6:xs.length<=sizeLine):wpAny (model prog w) A (dictSetDefault d (.ref a) v) Q E s:=by
 obtain⟨o,es,ep,ho,hc,hd,he,NT,hn⟩:=hm
 unfold dictSetDefault
 try with_reducible refine wpAny_holding ?_
 refine wpAny_bind (k6.pyHash hu m9 ?_)
 refine wpAny_bind (wpAny_dictFind_heap (s:={s with toks:=s.toks+k6.draws k}) hu m9 ho hd he NT hn ?_ ?_)
 ·intro c_
  have Me:k ∉ xs.map (·.1):=not_mem_keys_of_get c_
  refine wpAny_bind (wpAny_rule (wpAny_bind (wpAny_updateDictKeys (hz:=by have e:=size_of_entries he;lia) (s:={s with toks:=s.toks+k6.draws k}) ho hd (wpAny_pure (h2 (atKey_none_of_get c_) _ ⟨_,_,ep+1,Heap.get?_update_self _ ho (Obj.isFreed_of_dict (Obj.data_mapDictKeys hd _)),
   hc.mapDictKeys _,Obj.data_mapDictKeys hd _,?_,?_,?_⟩ (Heap.SameBut.update ..))))))
  ·simp[he,entryOfKey]
  ·intro x hx
   rcases Fk.mp hx with hx|hx
   ·exact k6.keeps (NT x hx) ho hd (Heap.SameBut.update ..)
   ·simp only[ES] at hx
    subst hx
    exact k6.keeps m9 ho hd (Heap.SameBut.update ..)
  ·rw[Fv,Gp]
   refine⟨hn,by simp,?_⟩
   intro x hx y hy
   simp only[E9,FX,ES] at hy
   subst hy
   exact λe=>Me (e ▸ hx)
 ·intro j p hj
  refine wpAny_bind (wpAny_dictEntries (s:={s with toks:=s.toks+k6.draws k}) ho hd ?_)
  rw[entry_at he j,hj]
  exact wpAny_bind (wpAny_rule (wpAny_pure (h1 p (atKey_of_get hn hj))))
theorem zO(k6:HeapKind prog w K)(d a:Addr)(hd:(d==sysModules)=false)(v:Value):
  MeetsIn prog w (Builtin.«dict.setdefault» ⟨[.ref d,.ref a,v],[]⟩) (λA R s=>k6.room A.in1/\∃ k xs,k6.is s.heap k a/\s.heap.DictOfH k6 d xs/\xs.length<=sizeLine/\
   (∀ p,atKey xs k=some p->R (.ok (.ret p.2)) {s with toks:=s.toks+k6.draws k})/\
   (atKey xs k=none->∀ h',h'.DictOfH k6 d (xs++[(k,a,v)])->Heap.SameBut d s.heap h'->R (.ok (.ret v)) {s with heap:=h',toks:=s.toks+k6.draws k})):=
 .of_wp λA R s ⟨hu,k,xs,m9,hm,hz,h1,h2⟩=>by
  unfold Builtin.«dict.setdefault»
  refine wpAny_bind ?_
  unfold Builtin.Dict.keyAndDefault
  refine wpAny_bind (wpAny_notOrdered_dict hm.typeIs ?_)
  show wpAny _ _ (pure (d,Value.ref a,some v)) _ _ s
  refine wpAny_pure ?_
  show wpAny _ _ (if(d==sysModules)=true then _ else(dictSetDefault d (.ref a) v>>=_)) _ _ s
  rw[if_neg (by rw[hd];exact E6)]
  exact wpAny_bind (zN hu m9 hm (λp hp=>wpAny_pure ⟨p.2,rfl,h1 p hp⟩) (λhn h' LJ Js=>wpAny_pure ⟨v,rfl,h2 hn h' LJ Js⟩) hz)
end
end L2
namespace My
open Exc
def lookD:List ((Int × Int) × Int)->Int->Int->Option Int
 |[],_,_=>none
 |((a,b),h)::r,x,y=>if a=x/\b=y then some h else lookD r x y
theorem jY(x y:Int):∀ a8:List ((Int × Int) × Int),valV (dtiV a8) [.inl x,.inl y]=(lookD a8 x y).map V.int
 |[]=>rfl
 |((a,b),h)::r=>by
  show valV (([.inl a,.inl b],V.int h)::dtiV r) _=_
  unfold lookD
  by_cases e:a=x/\b=y
  ·rw[if_pos e,jC (by rw[e.1,e.2])];rfl
  ·rw[if_neg e,jD (λz=>e (by
    have z':([Sum.inl a,Sum.inl b]:List Key)=[.inl x,.inl y]:=z
    injection z' with z1 z2
    injection z2 with z2 _
    exact⟨Sum.inl.inj z1,Sum.inl.inj z2⟩)),jY x y r]
def sdD(a8:List ((Int × Int) × Int))(x y v:Int):List ((Int × Int) × Int):=if(lookD a8 x y).isSome then a8 else a8++[((x,y),v)]
def zP:V->List V->Hp->VK->Prop:=λx vs H Q=>∃ a b i j d a8,x= .ref a/\vs=[.ref b,.int d]/\H a=some (.dT (dtiV a8))/\H b=some (.tup [.int i,.int j])/\Q (.int ((lookD a8 i j).getD d)) H
theorem zQ{X:Cx}(hu:X.A.units+1<cLine):MtR X "dict.get" zP:=by
 intro pins s σ H x vs v us Q I rx rv h
 obtain⟨a,b,i,j,d,a8,rfl,rfl,ha,hb,q⟩:=h
 obtain⟨u,u',rfl,ru,rd⟩:=fq rv
 cases(show v=Value.ref a from rx)
 refine xc hu I (DGet.t (k:=[.inl i,.inl j]) ha hb) ru rd λw' s' I' g8=>⟨.int ((lookD a8 i j).getD d),H,I',?_,q⟩
 rw[jY] at g8
 cases e:lookD a8 i j with
 |none=>rw[e] at g8;exact g8
 |some z=>rw[e] at g8;exact g8
def rSdT:V->List V->Hp->VK->Prop:=λx vs H Q=>∃ a b i j d a8,x= .ref a/\vs=[.ref b,.int d]/\H a=some (.dT (dtiV a8))/\H b=some (.tup [.int i,.int j])/\a8.length<100000/\∀ w,Q (.int w) (upd H a (.dT (dtiV (sdD a8 i j d))))
theorem zR{H:Hp}{a:Addr}{o:HO}(h:H a=some o):upd H a o=H:=by
 funext b
 by_cases e:b=a
 ·subst e;rw[az,h]
 ·rw[ao e]
theorem zS{X:Cx}(hu:X.A.units+1<cLine):MtR X "dict.setdefault" rSdT:=by
 intro pins s σ H x vs v us Q I rx rv h
 obtain⟨a,b,i,j,d,a8,rfl,rfl,ha,hb,hl,q⟩:=h
 obtain⟨u,u',rfl,ru,t,rfl⟩:=fq rv
 cases(show v=Value.ref a from rx)
 cases(show u=Value.ref b from ru)
 obtain⟨z,hd,xs,rel,dd⟩:=wY I.hok ha
 have b7:xs.length=a8.length:=by rw[<- Paired.length rel];simp[dtiV]
 have big:(100000:Nat)<sizeLine:=by decide
 have gt:H b=some (.tup (([.inl i,.inl j]:List Key).map kV)):=hb
 have k7:=rel.val [.inl i,.inl j]
 rw[jY] at k7
 refine call_meetsIn PySem.F.slot_dict_setdefault dd.typeIs PySem.F.entry_dict_setdefault (PySem.F.args_dict_setdefault_3 _ _ _) (zO (tupleKind (bC X.prog X.w)) a b hd (.int d t)) ⟨tupleKind_room_in1 hu,[.inl i,.inl j],xs,key_of I.hok gt,dd,by lia,λp hp=>?_,λhn h' Pe hs=>?_⟩
 ·rw[hp] at k7
  cases e:lookD a8 i j with
  |none=>rw[e] at k7;exact k7.elim
  |some w=>
   rw[e] at k7
   have:=q w
   unfold sdD at this
   rw[e] at this
   have e2:(if(some w:Option Int).isSome then a8 else a8++[((i,j),d)])=a8:=rfl
   rw[e2,zR ha] at this
   exact⟨.int w,H,I.tok _,k7,this⟩
 ·rw[hn] at k7
  cases e:lookD a8 i j with
  |some w=>rw[e] at k7;exact k7.elim
  |none=>
   have e2:sdD a8 i j d=a8++[((i,j),d)]:=by unfold sdD;rw[e];rfl
   have e3:dtiV (sdD a8 i j d)=dtiV a8++[([.inl i,.inl j],.int d)]:=by rw[e2];simp[dtiV]
   obtain⟨o,es,ep,ho,hx,h3,h4,_,h5⟩:=Pe
   have new:ObjOk X.prog X.w (upd H a (.dT (dtiV (sdD a8 i j d)))) h' a (.dT (dtiV (sdD a8 i j d))):=by
    refine⟨by rw[e3,E2];simp[dtiV];lia,hd,_,?_,o,es,ep,ho,hx,h3,h4,h5⟩
    rw[e3]
    refine KT.keeps (H:=H) (Paired.snoc (a:=(([.inl i,.inl j]:List Key),V.int d)) (b:=(([.inl i,.inl j]:List Key),b,Value.int d t)) rel ⟨rfl,gt,⟨t,rfl⟩⟩) λc ys ec=>?_
    rw[ao (uo ec ha (λz=>nomatch z))]
    exact ec
   exact⟨.int d,_,wZ I (by rw[ha];exact True.intro) hs ⟨o,ho⟩ new,⟨t,rfl⟩,q d⟩
section
variable {X:Cx}[J:Jm]{a b c e o f:Expr}{ta tb tc te to:TME}{pos apos cpos:Pos}{t:TMA}
def mD0:TME:=λ_ M R=>R (.dti []) M
theorem zT:ME X (.Dict [] [] pos) mD0:=⟨pe_dnewT.anti λs H Q q=>by
 obtain⟨F,z,M,k,rs,R,h1,h2⟩:=q
 intro p hp
 have gn:=Grow.new k.fh hp (.dT [])
 exact h2 _ _ M _ _ gn.toM h1 (rep_dti.mpr ⟨p,rfl,az⟩) (rs.rm.grow gn)⟩
def mDN:TME:=λ_ M R=>∀ p,p ∉ aw M->R (.ptr p) ((p,.dti [])::M)
theorem zU:ME X (.Dict [] [] pos) mDN:=⟨pe_dnewT.anti λs H Q q=>by
 obtain⟨F,z,M,k,rs,R,h1,h2⟩:=q
 intro p hp
 exact h2 _ _ _ F _ (GrowM.new k.fh hp) (h1 p λz=>rs.rm.here z hp) (rep_ptr.mpr rfl) (rs.rm.new k.fh hp az)⟩
def zV(to:TME)(t:TMA):TME:=λz M R=>to z M λd M1=>match d with| .dti a8=>(t z M1 λds M2=>match ds with|[.tup [.int i,.int j],.int x]=>R (.int ((lookD a8 i j).getD x)) M2|_=>False)|_=>False
theorem zW(hu:X.A.units+1<cLine)(ho:ME X o to)(ha:MA X [e,f] t)(b9:attributeBase o "get" X.env (eval o X.env)=eval o X.env:=by rfl)
  (d9:zHF X cpos [e,f]:=by rfl)
  (c7:(apos.endLine==cpos.line)=true:=by rfl) (n5:zSE X e [f]:=by rfl) (b_:zPL X cpos [f]:=by rfl):
  ME X (.Call (.Attribute o "get" apos) [e,f] [] cpos) (zV to t):=⟨(dX PySem.F.plainAttrs_dict PySem.F.slot_dict_get PySem.F.type_dict_get (zQ hu) ho.out ha.out b9 d9 c7 n5 b_).anti λs H Q h=>by
 obtain⟨F,z,M,k,rs,R,h1,h2⟩:=h
 refine⟨F,z,M,k,rs,_,h1,λx u M1 F1 H1 g1 hx rx m1=>?_⟩
 split at hx
 ·rename_i a8
  obtain⟨p,rfl,hp⟩:=rep_dti.mp rx
  refine⟨.inr (.inr (.inl ⟨rfl,.inr ⟨_,g1.fh _ _ hp⟩⟩)),?_⟩
  refine⟨F1,z,M1,k.growM rs.mb g1,rs.growM k.bh g1 m1,_,hx,λds vs M2 F2 H2 g2 hd rd m2=>?_⟩
  split at hd
  ·rename_i i j x
   obtain⟨v1,r1,rfl,q1,q2⟩:=reps_cons.mp rd
   obtain⟨v2,r2,rfl,q3,q4⟩:=reps_cons.mp q2
   rw[reps_nil.mp q4,rep_int.mp q3]
   obtain⟨b,us,rfl,hb,ru⟩:=rep_tupS.mp q1
   have Mf:us=[.int i,.int j]:=(Reps.ints (ns:=[i,j])).mp ru
   subst Mf
   exact⟨p,b,i,j,x,a8,rfl,rfl,g2.fh _ _ (g2.ff _ _ hp),g2.fh _ _ hb,h2 _ _ M2 F2 H2 (g1.trans g2) hd (rep_int.mpr rfl) m2⟩
  ·exact hd.elim
 ·exact hx.elim⟩
def mDsd(to:TME)(t:TMA):TME:=λz M R=>to z M λd M1=>match d with| .ptr a=>(∃ a8,mget M1 a=some (.dti a8))/\(t z M1 λds M2=>match ds with|[.tup [.int i,.int j],.int x]=>∃ a8,mget M2 a=some (.dti a8)/\a8.length<100000/\∀ w,R (.int w) (mput M2 a (.dti (sdD a8 i j x)))|_=>False)|_=>False
theorem zX(hu:X.A.units+1<cLine)(ho:ME X o to)(ha:MA X [e,f] t)(b9:attributeBase o "setdefault" X.env (eval o X.env)=eval o X.env:=by rfl)
  (d9:zHF X cpos [e,f]:=by rfl)
  (c7:(apos.endLine==cpos.line)=true:=by rfl) (n5:zSE X e [f]:=by rfl) (b_:zPL X cpos [f]:=by rfl):
  ME X (.Call (.Attribute o "setdefault" apos) [e,f] [] cpos) (mDsd to t):=⟨(dX PySem.F.plainAttrs_dict PySem.F.slot_dict_setdefault PySem.F.type_dict_setdefault (zS hu) ho.out ha.out b9 d9 c7 n5 b_).anti λs H Q h=>by
 obtain⟨F,z,M,k,rs,R,h1,h2⟩:=h
 refine⟨F,z,M,k,rs,_,h1,λx u M1 F1 H1 g1 hx rx m1=>?_⟩
 split at hx
 ·rename_i a
  obtain⟨⟨Qf,L_⟩,hx⟩:=hx
  rw[rep_ptr.mp rx]
  refine⟨.inr (.inr (.inl ⟨rfl,.inr ⟨_,m1.ok _ _ (bL L_)⟩⟩)),?_⟩
  refine⟨F1,z,M1,k.growM rs.mb g1,rs.growM k.bh g1 m1,_,hx,λds vs M2 F2 H2 g2 hd rd m2=>?_⟩
  split at hd
  ·rename_i i j x
   obtain⟨a8,hm,hl,hR⟩:=hd
   obtain⟨v1,r1,rfl,q1,q2⟩:=reps_cons.mp rd
   obtain⟨v2,r2,rfl,q3,q4⟩:=reps_cons.mp q2
   rw[reps_nil.mp q4,rep_int.mp q3]
   obtain⟨b,us,rfl,hb,ru⟩:=rep_tupS.mp q1
   have Mf:us=[.int i,.int j]:=(Reps.ints (ns:=[i,j])).mp ru
   subst Mf
   refine⟨a,b,i,j,x,a8,rfl,rfl,m2.ok _ _ (bL hm),g2.fh _ _ hb,hl,λw=>?_⟩
   exact h2 _ _ _ F2 _ (g1.trans (g2.trans (GrowM.put g2.fh (m2.fr a (cj (bL hm))) hm))) (hR w) (rep_int.mpr rfl) (m2.put hm az)
  ·exact hd.elim
 ·exact hx.elim⟩
end
section
variable {P:Program}{w:World}{K:Ex}{mg:Str->Option Value}{base:Heap}
open Classical in
theorem Cls.okIM{x qual:Str}{st:Stmt}{f C:Addr}{fd:FuncData}{N:List Str}{p0:Str}{ps:List Str}{k:Nat}{S:SiD}(T:Fun K "__init__" qual st f fd)(hb:Binds K fd (p0::ps) [])(F:FnScope N (p0::ps) (ag st))(len:∀ ds R,S ds R->ds.length=ps.length)
  (hns:nsIn K mainGlobals x=some (some (.ref C))) (l9:mg x=some (.ref C)) (mk:Mk K C f)
  (a_:∀ (cdv:Value) (A:Around) (outer:List Env) (s:Shared) (H:Hp) (E:XK) (J:Jm),Room k (A.deeper (envOfC qual (ag st) s.heap.objs.size f cdv))->XOkM (cxOf (CX1 P w) P w K mg base N qual (ag st) f cdv A outer s H E).nox->
   ∃ t,MSs (cxOf (CX1 P w) P w K mg base N qual (ag st) f cdv A outer s H E).nox (aH st) t/\∀ a ds R,(∀ z M x fs,¬ J.RM z M x fs)->S ds R->t {nx:=λ_ M'=>∃ fs,M'=[(a,.ins x fs)]/\R fs,rt:=λ_ _=>False} (startD N (.ptr a::ds)) [(a,.ins x [])]):CalM P w K mg base (k+1) x (p0::ps) S:=by
 refine⟨C,f,fd,hns,l9,mk,Fun.okC T F (λvs H Q E h=>?_) (λcdv A outer s H vs Q E hr h=>?_),hb⟩
 ·obtain⟨a,dx,us,H1,F,ds,rfl,_,_,_,_,_,rs,R,h,_⟩:=h
  rw[EW,EW,rs.length,len ds R h]
 ·obtain⟨a,dx,us,H1,F1,ds,rfl,rfl,ha,v5,j3,fh,rs,R,h,q⟩:=h
  let H:Hp:=upd (upd H1 dx (.own a)) a (.ins C dx [])
  let B:Hp:=λb=>if b=a then none else H b
  have NU:B a=none:=if_pos rfl
  have hB:∀ {b:Addr},b≠a->B b=H b:=λ{b} h=>if_neg h
  have E_:∀ {b:Addr} {o:HO},H1 b=some o->b≠a/\H b=some o:=λ{b o} e=>by
   have n1:b≠a:=bK e ha
   exact⟨n1,by show upd _ _ _ b=_;rw[ao n1,ao (bK e v5)];exact e⟩
  letI:Jm:={B:=B,F0:=F1,RX:=λ_ _ _=>False,RM:=λ_ _ _ _=>False}
  have hx:XOkM (cxOf (CX1 P w) P w K mg base N qual (ag st) f cdv A outer s H E).nox:=λσ z M' F' H' s' e C od y fs I kk rr hR er _=>hR.elim
  obtain⟨t,ht,hq⟩:=a_ cdv A outer s H E inferInstance hr hx
  have Fa:F1 a=none:=fh.free ha
  have k0:Kept B F1 F1 H:=⟨λb o e=>by
   by_cases n:b=a
   ·rw[n,NU] at e;cases e
   ·rw[hB n] at e;exact e,λb o e=>(E_ (fh b o e)).2,Same.refl F1,λ_ h _=>h,rfl,Same.refl F1,λ_ h _=>h⟩
  have y':Reps K F1 (.ptr a::ds) (.ref a::us):=reps_cons.mpr ⟨_,_,rfl,rep_ptr.mpr rfl,rs⟩
  have Pf:RepM K F1 H [(a,.ins x [])]:=⟨by simp[aw],λb o hb=>by
   have e:=ES.mp hb
   cases e
   exact⟨C,dx,[],hns,az,repf_nil.mpr rfl⟩,λb hb=>by
   have e:b=a:=by simpa[aw] using hb
   rw[e];exact Fa⟩
  have r0:RepZ K B F1 H (startD N (.ptr a::ds)) (L2.start N (.ref a::us)) [(a,.ins x [])]:=⟨dY y',rL y',Pf,λb hb=>by
   have e:b=a:=by simpa[aw] using hb
   rw[e];exact NU⟩
  refine⟨_,ht.out.nox,F1,F1,_,_,k0,r0,_,hq a ds R (λ_ _ _ _ z=>z) h,⟨λz' s' M' F' H' kk hn r=>?_,λd v M' F' H' kk hd rd NS mb=>hd.elim,λ_ _ _ _ _ _ h _=>h.elim,λ_ _ _ _ _ _ h _=>h.elim⟩⟩
  obtain⟨fs,rfl,hR⟩:=hn
  obtain⟨C',D_,ws,k8,f8,rf⟩:=r.rm.ok a _ (ES.mpr rfl)
  have y8:nsIn K mainGlobals x=some (some (.ref C')):=k8
  rw[hns] at y8
  cases y8
  exact q fs ws D_ F' H' ⟨kk.f0,kk.fh,λb o e=>kk.bh b o (by show B b=some o;rw[hB (E_ e).1];exact(E_ e).2),λb h1 h2=>kk.out b h1 (by
   show B b≠none
   cases e:H1 b with
   |none=>exact absurd e h2
   |some o=>rw[hB (E_ e).1,(E_ e).2];exact λz=>nomatch z)⟩ hR f8 (r.rm.fr a (by simp[aw])) rf
end
section
variable {P:Program}{w:World}{K:Ex}{mg:Str->Option Value}{base:Heap}{n:Nat}{x m:Str}{ps:List Str}
theorem CalMth.one{S:SpM}(h:CalMth P w K mg base n x m ps (lSpM K S)):∀ y,y∈[x]->CalMth P w K mg base n y m ps (lSpM K ((λ_=>S) y)):=λy hy=>by
 rw[ES.mp hy];exact h
theorem rS{f:Addr}{fd:FuncData}{sp:Sp}(h:∀ vs H Q E,¬ sp vs H Q E):FnOk P w K mg base (CX1 P w) n f fd ps sp:=⟨λvs H Q E q=>(h _ _ _ _ q).elim,λA outer s H args us vs Q E _ _ _ _ q=>(h _ _ _ _ q).elim⟩
theorem rT{S:SpM}(h:∀ ds M R RX,¬ S ds M R RX):∀ vs H Q E,¬ lSpM K S vs H Q E:=by
 rintro vs H Q E ⟨F,ds,M,_,_,_,R,RX,q,_⟩
 exact h ds M R RX q
theorem CalMth.never{qual:Str}{st:Stmt}{S:SpM}(T:Txm K x m qual st ps)(h:∀ ds M R RX,¬ S ds M R RX):CalMth P w K mg base n x m ps (lSpM K S):=by
 obtain⟨C,f,fd,h1,h2,h3,T,hb⟩:=T
 exact⟨C,f,fd,h1,h2,h3,rS (rT h),hb⟩
theorem CalMM.never{st:Stmt}{S:SpM}(T:Tx K mg x st ps)(h:∀ ds M R RX,¬ S ds M R RX):CalMM P w K mg base n x ps S:=by
 obtain⟨f,fd,T,hb,hm⟩:=T
 exact⟨f,fd,rS (rT h),hb,T.kp,hm⟩
end
def jZ(S:SpM):SpM:=λds M R RX=>∃ M1 M2,M=M1++M2/\S ds M2 (λd M'=>R d (M1++M')) λx fs M'=>RX x fs (M1++M')
theorem keys_app{M1 M2:MS}{a:Addr}:a∈aw (M1++M2)↔a∈aw M1\/a∈aw M2:=by unfold aw;rw[Fv,Fk]
theorem rV{K:Ex}{S:SpM}{vs:List V}{H:Hp}{Q:VK}{E:XK}(h:lSpM K (jZ S) vs H Q E):lSpM K S vs H Q E:=by
 obtain⟨F,ds,M,fh,rs,rm,R,RX,⟨M1,M2,rfl,hS⟩,q,qx⟩:=h
 have nd:(aw M1++aw M2).Nodup:=by have:=rm.nd;unfold aw at this ⊢;rw[Fv] at this;exact this
 have Mg:∀ {a:Addr},a∈aw M1->a ∉ aw M2:=λ{a} h1 h2=>(Gp.mp nd).2.2 a h1 a h2 rfl
 have Pg:RepM K F H M2:=⟨(Gp.mp nd).2.1,λa o h=>rm.ok a o (E7 _ h),λa h=>rm.fr a (keys_app.mpr (.inr h))⟩
 have up:∀ {M':MS} {F' H':Hp},GrowM M2 M' F H F' H'->RepM K F' H' M'->GrowM (M1++M2) (M1++M') F H F' H'/\RepM K F' H' (M1++M'):=λ{M' F' H'} g r=>by
  have v9:∀ {a:Addr},a∈aw M1->H a≠none:=λ{a} h=>rm.here (keys_app.mpr (.inl h))
  have Mh:∀ {a:Addr},a∈aw M1->a ∉ aw M':=λ{a} h1 h2=>by
   rcases g.ks a h2 with z|z
   ·exact Mg h1 z
   ·exact v9 h1 z
  refine⟨⟨g.ff,g.fh,λb o nb e=>g.hh b o (λz=>nb (keys_app.mpr (.inr z))) e,λb nb h1 h2=>g.out b (λz=>nb (keys_app.mpr (.inr z))) h1 h2,λb hb=>?_⟩,⟨?_,λa o h=>?_,λa h=>?_⟩⟩
  ·rcases keys_app.mp hb with z|z
   ·exact .inl (keys_app.mpr (.inl z))
   ·exact(g.ks b z).imp (λz=>keys_app.mpr (.inr z)) id
  ·unfold aw
   rw[Fv]
   exact Gp.mpr ⟨(Gp.mp nd).1,r.nd,λa h1 b h2 e=>Mh h1 (e ▸ h2)⟩
  ·rcases Fk.mp h with z|z
   ·have ka:a∈aw M1:=cj z
    exact(rm.ok a o (FJ _ z)).mono g.ff λo e=>g.hh a o (Mg ka) e
   ·exact r.ok a o z
  ·rcases keys_app.mp h with z|z
   ·exact g.out a (Mg z) (rm.fr a (keys_app.mpr (.inl z))) (v9 z)
   ·exact r.fr a z
 exact⟨F,ds,M2,fh,rs,Pg,_,_,hS,λd v M' F' H' g hd rd m'=>q d v _ F' H' (up g m').1 hd rd (up g m').2,λx fs C od M' F' H' g hR er m'=>qx x fs C od _ F' H' (up g m').1 hR er (up g m').2⟩
section
variable {P:Program}{w:World}{K:Ex}{mg:Str->Option Value}{base:Heap}{n:Nat}{x m:Str}{ps:List Str}{S:SpM}
theorem CalMM.frame(C:CalMM P w K mg base n x ps S):CalMM P w K mg base n x ps (jZ S):=C.imp λ_ _ _ _ h=>rV h
theorem CalMth.frame(C:CalMth P w K mg base n x m ps (lSpM K S)):CalMth P w K mg base n x m ps (lSpM K (jZ S)):=C.imp λ_ _ _ _ h=>rV h
end
def nilX(S:SpX):SpM:=λds M R RX=>M=[]/\∃ (R0:D->Prop) (G':XD),S ds R0 G'/\(∀ d M',R0 d->R d M')/\∀ x fs M',G' x fs->RX x fs M'
theorem CalMM.nilX{P:Program}{w:World}{K:Ex}{mg:Str->Option Value}{base:Heap}{n:Nat}{x:Str}{ps:List Str}{S:SpX}(C:CalMM P w K mg base n x ps (nilX S)):CalX P w K mg base n x ps S:=C.toX λ_ R RX h=>⟨rfl,R,RX,h,λ_ _ h=>h,λ_ _ _ h=>h⟩
end My
namespace My
section
variable {K:Ex}{h:Heap}{mg:Str->Option Value}{x y m q f:Str}{st:Stmt}{ps:List Str}
abbrev NsC(K:Ex)(x:Str)(C:Addr):Prop:=nsIn K mainGlobals x=some (some (.ref C))
theorem NsC.uniq{C D:Addr}(a:NsC K x C)(b:NsC K x D):C=D:=by
 have e:=a.symm.trans b
 cases e;rfl
abbrev BindA(x q:Str)(st:Stmt)(ps:List Str):Prop:=∀ (kV doc pm:Value) (an:Option Addr) (cdv ct:Value) (us:List Value),us.length=ps.length->bindArgs (fnOf x q (bz st) (aH st) (ag st) .none kV doc pm an cdv ct) ⟨us,[]⟩=pure (ps.zip us)
def FnIn(K:Ex)(x:Str)(st:Stmt):Prop:=∃ f fd,NsC K x f/\Fun K x x st f fd
theorem fnIn_mk{f:Addr}{oc:Value}{od an:Option Addr}{sl:Array (Option Value)}{kV dc pm cd ct:Value}(a:nsIn K mainGlobals x=some (some (.ref f)))(l:K.lookup f=some ⟨oc,od,.func (fnOf x x (bz st) (aH st) (ag st) .none kV dc pm an cd ct),sl⟩)(c:codeIn K cd x=true)(k:keepIn K (.ref f)=true):FnIn K x st:=⟨f,_,a,gf l c k⟩
theorem FnIn.tx(T:FnIn K x st)(X:K.In h)(G:h.Ns mainGlobals mg)(b:BindA x x st ps):Tx K mg x st ps:=by
 obtain⟨f,fd,a,F⟩:=T
 exact⟨f,fd,F,F.binds b,mg_of X G a⟩
theorem FnIn.law{p:Str}(T:FnIn K x st)(X:K.In h)(G:h.Ns mainGlobals mg){fa:Addr}(Kg:mg x=some (.ref fa))(b:∀ (kV doc pm:Value) (an:Option Addr) (cdv ct v:Value),bindArgs (fnOf x x (bz st) (aH st) (ag st) .none kV doc pm an cdv ct) ⟨[v],[]⟩=pure [(p,v)]):∃ fd,(∀ (s:Shared) (v:Value),BindsTo s fd ⟨[v],[]⟩ [(p,v)])/\Fun K x x st fa fd:=by
 obtain⟨f,fd,a,F⟩:=T
 have e:=Kg.symm.trans (mg_of X G a)
 cases e
 refine⟨fd,λs v=>?_,F⟩
 obtain⟨oc,od,kV,doc,pm,an,cdv,ct,osl,rfl,lk,ge⟩:=F.ex
 exact .of_eq (b _ _ _ _ _ _ v)
theorem bn{us:List Value}{x:Str}{xs:List Str}(h:us.length=(x::xs).length):∃ u t,us=u::t/\t.length=xs.length:=by
 cases us with
 |nil=>cases h
 |cons u t=>exact⟨u,t,rfl,Nat.succ.inj h⟩
theorem len_0{us:List Value}(h:us.length=([]:List Str).length):us=[]:=G3 h
theorem zY{x0:Str}(b:∀ (kV doc pm:Value) (an:Option Addr) (cdv ct u0:Value),bindArgs (fnOf x q (bz st) (aH st) (ag st) .none kV doc pm an cdv ct) ⟨[u0],[]⟩=pure [(x0,u0)]):BindA x q st [x0]:=λkV doc pm an cdv ct us hl=>by
 obtain⟨u0,t0,rfl,h0⟩:=bn hl
 cases len_0 h0
 exact b kV doc pm an cdv ct u0
theorem bind2{x0 x1:Str}(b:∀ (kV doc pm:Value) (an:Option Addr) (cdv ct u0 u1:Value),bindArgs (fnOf x q (bz st) (aH st) (ag st) .none kV doc pm an cdv ct) ⟨[u0,u1],[]⟩=pure [(x0,u0),(x1,u1)]):BindA x q st [x0,x1]:=λkV doc pm an cdv ct us hl=>by
 obtain⟨u0,t0,rfl,h0⟩:=bn hl
 obtain⟨u1,t1,rfl,h1⟩:=bn h0
 cases len_0 h1
 exact b kV doc pm an cdv ct u0 u1
theorem bind3{x0 x1 x2:Str}(b:∀ (kV doc pm:Value) (an:Option Addr) (cdv ct u0 u1 u2:Value),bindArgs (fnOf x q (bz st) (aH st) (ag st) .none kV doc pm an cdv ct) ⟨[u0,u1,u2],[]⟩=pure [(x0,u0),(x1,u1),(x2,u2)]):BindA x q st [x0,x1,x2]:=λkV doc pm an cdv ct us hl=>by
 obtain⟨u0,t0,rfl,h0⟩:=bn hl
 obtain⟨u1,t1,rfl,h1⟩:=bn h0
 obtain⟨u2,t2,rfl,h2⟩:=bn h1
 cases len_0 h2
 exact b kV doc pm an cdv ct u0 u1 u2
theorem bind4{x0 x1 x2 x3:Str}(b:∀ (kV doc pm:Value) (an:Option Addr) (cdv ct u0 u1 u2 u3:Value),bindArgs (fnOf x q (bz st) (aH st) (ag st) .none kV doc pm an cdv ct) ⟨[u0,u1,u2,u3],[]⟩=pure [(x0,u0),(x1,u1),(x2,u2),(x3,u3)]):BindA x q st [x0,x1,x2,x3]:=λkV doc pm an cdv ct us hl=>by
 obtain⟨u0,t0,rfl,h0⟩:=bn hl
 obtain⟨u1,t1,rfl,h1⟩:=bn h0
 obtain⟨u2,t2,rfl,h2⟩:=bn h1
 obtain⟨u3,t3,rfl,h3⟩:=bn h2
 cases len_0 h3
 exact b kV doc pm an cdv ct u0 u1 u2 u3
theorem bind5{x0 x1 x2 x3 x4:Str}(b:∀ (kV doc pm:Value) (an:Option Addr) (cdv ct u0 u1 u2 u3 u4:Value),bindArgs (fnOf x q (bz st) (aH st) (ag st) .none kV doc pm an cdv ct) ⟨[u0,u1,u2,u3,u4],[]⟩=pure [(x0,u0),(x1,u1),(x2,u2),(x3,u3),(x4,u4)]):BindA x q st [x0,x1,x2,x3,x4]:=λkV doc pm an cdv ct us hl=>by
 obtain⟨u0,t0,rfl,h0⟩:=bn hl
 obtain⟨u1,t1,rfl,h1⟩:=bn h0
 obtain⟨u2,t2,rfl,h2⟩:=bn h1
 obtain⟨u3,t3,rfl,h3⟩:=bn h2
 obtain⟨u4,t4,rfl,h4⟩:=bn h3
 cases len_0 h4
 exact b kV doc pm an cdv ct u0 u1 u2 u3 u4
theorem bind6{x0 x1 x2 x3 x4 x5:Str}(b:∀ (kV doc pm:Value) (an:Option Addr) (cdv ct u0 u1 u2 u3 u4 u5:Value),bindArgs (fnOf x q (bz st) (aH st) (ag st) .none kV doc pm an cdv ct) ⟨[u0,u1,u2,u3,u4,u5],[]⟩=pure [(x0,u0),(x1,u1),(x2,u2),(x3,u3),(x4,u4),(x5,u5)]):BindA x q st [x0,x1,x2,x3,x4,x5]:=λkV doc pm an cdv ct us hl=>by
 obtain⟨u0,t0,rfl,h0⟩:=bn hl
 obtain⟨u1,t1,rfl,h1⟩:=bn h0
 obtain⟨u2,t2,rfl,h2⟩:=bn h1
 obtain⟨u3,t3,rfl,h3⟩:=bn h2
 obtain⟨u4,t4,rfl,h4⟩:=bn h3
 obtain⟨u5,t5,rfl,h5⟩:=bn h4
 cases len_0 h5
 exact b kV doc pm an cdv ct u0 u1 u2 u3 u4 u5
structure ClF(K:Ex)(x:Str)(C:Addr):Prop where
 ns:NsC K x C
 cl:Cls K C
 ha:EZ K (.ref C) "__class__"=some (some (.builtin "object.__class__"))
 hn:specialIn K (.builtin "object.__class__") "__get__"=some (some (.builtin "getset_descriptor.__get__"))
 ht:takesIn K (.builtin "object.__class__")=some true
 hm:F6 K C (.type "object")=some true
def ClIn(K:Ex)(x:Str):Prop:=∃ C,ClF K x C
theorem clIn_mk{C:Addr}(a:nsIn K mainGlobals x=some (some (.ref C)))(pg:plainGet K C Str.empty=true)(hd:hasDictIn K C=true)(po:plainOver K C=true)(sa:EZ K (.ref C) "__setattr__"=some (some (.builtin "object.__setattr__")))
  (ha:EZ K (.ref C) "__class__"=some (some (.builtin "object.__class__"))) (hn:specialIn K (.builtin "object.__class__") "__get__"=some (some (.builtin "getset_descriptor.__get__"))) (ht:takesIn K (.builtin "object.__class__")=some true) (hm:F6 K C (.type "object")=some true):ClIn K x:=⟨C,a,⟨pg,hd,po,sa⟩,ha,hn,ht,hm⟩
theorem ClIn.i(c:ClIn K x)(X:K.In h)(G:h.Ns mainGlobals mg):∃ C,ClsI K mg x C:=by
 obtain⟨C,k⟩:=c
 exact⟨C,k.ns,mg_of X G k.ns,k.cl,k.ha,k.hn,k.ht,k.hm,yI⟩
def NoIn(K:Ex)(x f:Str):Prop:=∃ C,NsC K x C/\EZ K (.ref C) f=some none
theorem noIn_mk{C:Addr}(a:nsIn K mainGlobals x=some (some (.ref C)))(b:EZ K (.ref C) f=some none):NoIn K x f:=⟨C,a,b⟩
theorem ClIn.a(c:ClIn K x)(n:NoIn K x f):ClsA K x f:=by
 obtain⟨C,k⟩:=c
 obtain⟨D,a,b⟩:=n
 cases NsC.uniq k.ns a
 exact⟨C,a,k.cl,b⟩
theorem NoIn.all(n:NoIn K x f):∀ C,nsIn K mainGlobals x=some (some (.ref C))->EZ K (.ref C) f=some none:=λC hC=>by
 obtain⟨D,a,b⟩:=n
 cases NsC.uniq hC a
 exact b
def MtIn(K:Ex)(x m q:Str)(st:Stmt):Prop:=∃ C f fd,NsC K x C/\Meth K C m f/\Fun K m q st f fd
theorem mtIn_mk{C f:Addr}{oc:Value}{od an:Option Addr}{sl:Array (Option Value)}{kV dc pm cd ct:Value}(a:nsIn K mainGlobals x=some (some (.ref C)))(b:EZ K (.ref C) m=some (some (.ref f)))(i:isFn K (.ref f)=true)(l:K.lookup f=some ⟨oc,od,.func (fnOf m q (bz st) (aH st) (ag st) .none kV dc pm an cd ct),sl⟩)(c:codeIn K cd q=true)(k:keepIn K (.ref f)=true):MtIn K x m q st:=⟨C,f,_,a,⟨b,i,k⟩,gf l c k⟩
theorem MtIn.txm(T:MtIn K x m q st)(c:ClIn K x)(b:BindA m q st ps):Txm K x m q st ps:=by
 obtain⟨C,k⟩:=c
 obtain⟨D,f,fd,a,mt,F⟩:=T
 cases NsC.uniq k.ns a
 exact⟨C,f,fd,a,k.cl,mt,F,F.binds b⟩
def InIn(K:Ex)(x q:Str)(st:Stmt):Prop:=∃ C f fd,NsC K x C/\Mk K C f/\Fun K "__init__" q st f fd
theorem inIn_mk{C f:Addr}{oc:Value}{od an:Option Addr}{sl:Array (Option Value)}{kV dc pm cd ct:Value}(a:nsIn K mainGlobals x=some (some (.ref C)))(mk:makesIn K C=true)(b:EZ K (.ref C) "__init__"=some (some (.ref f)))(i:isFn K (.ref f)=true)(kp:keepIn K (.ref C)=true)(l:K.lookup f=some ⟨oc,od,.func (fnOf "__init__" q (bz st) (aH st) (ag st) .none kV dc pm an cd ct),sl⟩)(c:codeIn K cd q=true)(k:keepIn K (.ref f)=true):InIn K x q st:=⟨C,f,_,a,⟨mk,b,i,kp⟩,gf l c k⟩
def Txi(K:Ex)(mg:Str->Option Value)(x q:Str)(st:Stmt)(ps:List Str):Prop:=∃ C f fd,NsC K x C/\mg x=some (.ref C)/\Mk K C f/\Fun K "__init__" q st f fd/\Binds K fd ps []
theorem InIn.txi(T:InIn K x q st)(X:K.In h)(G:h.Ns mainGlobals mg)(b:BindA "__init__" q st ps):Txi K mg x q st ps:=by
 obtain⟨C,f,fd,a,mk,F⟩:=T
 exact⟨C,f,fd,a,mg_of X G a,mk,F,F.binds b⟩
def CiIn(K:Ex)(x:Str)(i:Int):Prop:=∃ t,nsIn K mainGlobals x=some (some (.int i t))
def CsIn(K:Ex)(x y:Str):Prop:=∃ t,nsIn K mainGlobals x=some (some (.str y t))
theorem ciIn_mk{i:Int}{t:Tok}(a:nsIn K mainGlobals x=some (some (.int i t))):CiIn K x i:=⟨t,a⟩
theorem csIn_mk{t:Tok}(a:nsIn K mainGlobals x=some (some (.str y t))):CsIn K x y:=⟨t,a⟩
theorem CiIn.g{i:Int}(c:CiIn K x i)(X:K.In h)(G:h.Ns mainGlobals mg):∃ t,mg x=some (.int i t):=let ⟨t,a⟩:=c;⟨t,mg_of X G a⟩
theorem CsIn.g(c:CsIn K x y)(X:K.In h)(G:h.Ns mainGlobals mg):∃ t,mg x=some (.str y t):=let ⟨t,a⟩:=c;⟨t,mg_of X G a⟩
def NnIn(K:Ex)(x:Str):Prop:=nsIn K mainGlobals x=some none
theorem nnIn_mk(a:nsIn K mainGlobals x=some none):NnIn K x:=a
structure ErF(K:Ex)(x:Str)(bm:List Value)(C N:Addr):Prop where
 ns:NsC K x C
 kp:keepIn K (.ref C)=true
 ob:∃ nm q bs sn sub ab col dd k0 k1 k2 k3 k5,K.lookup C=some (excClassObj nm q C N bs bm true sn sub ab col dd k0 k1 k2 k3 k5 "ValueError.__new__")
structure ErN(K:Ex)(N:Addr):Prop where
 ok:nsOkIn K N=true
 no:nsIn K N "__init__"=some none
def EbIn(K:Ex):Prop:=∃ C N,ErF K "MotifError" Exc.veLine C N/\ErN K N
def EdIn(K:Ex)(x:Str)(C N:Addr):Prop:=∃ B,NsC K "MotifError" B/\ErF K x (.ref B::Exc.veLine) C N
def E0In(K:Ex)(x:Str):Prop:=∃ C N,EdIn K x C N/\ErN K N
def E1In(K:Ex)(x q:Str)(st:Stmt):Prop:=∃ C N f fd,EdIn K x C N/\EZ K (.ref C) "__init__"=some (some (.ref f))/\isFn K (.ref f)=true/\Fun K "__init__" q st f fd
def EaIn(K:Ex)(x:Str):Prop:=∃ C,NsC K x C/\EZ K (.ref C) "__setattr__"=some (some (.builtin "object.__setattr__"))
def EgIn(K:Ex)(x:Str):Prop:=∃ C,NsC K x C/\EZ K (.ref C) "__getattribute__"=some (some (.builtin "BaseException.__getattribute__"))/\EZ K (.ref C) "__getattr__"=some none
def EiIn(K:Ex)(x:Str):Prop:=∃ M,NsC K x M/\readsIn K M (.type "type")=true/\findCls K (.ref M) (.type "type") "__init__"=some (.val (.builtin "ValueError.__init__"))/\specialIn K (.ref M) "__getattribute__"=some (some (.builtin "type.__getattribute__"))
section
variable {B C D N:Addr}{nm qn:Str}{bs:List Value}{sn:List Str}{sub:List Value}{ab:Bool}{col:Option Bool}{dd:Option Addr}{k0 k1 k2 k3 k5:Option Value}{nc:Value}{nd:Option Addr}{ne:Array DictEntry}{np:Nat}{nl:Array (Option Value)}
theorem ebIn_mk(a:nsIn K mainGlobals "MotifError"=some (some (.ref C)))(kp:keepIn K (.ref C)=true)(o:K.lookup C=some (excClassObj nm qn C N bs Exc.veLine true sn sub ab col dd k0 k1 k2 k3 k5 "ValueError.__new__"))(nk:K.lookup N=some ⟨nc,nd,.dict ne np,nl⟩)(al:ne.toList.all (λe=>match e.key with| .str _ _=>true|_=>false)=true)(ni:nsIn K N "__init__"=some none):EbIn K:=⟨C,N,⟨a,kp,_,_,_,_,_,_,_,_,_,_,_,_,_,o⟩,rn nk al,ni⟩
theorem e0In_mk(b:nsIn K mainGlobals "MotifError"=some (some (.ref B)))(a:nsIn K mainGlobals x=some (some (.ref C)))(kp:keepIn K (.ref C)=true)(o:K.lookup C=some (excClassObj nm qn C N bs (.ref B::Exc.veLine) true sn sub ab col dd k0 k1 k2 k3 k5 "ValueError.__new__"))(nk:K.lookup N=some ⟨nc,nd,.dict ne np,nl⟩)(al:ne.toList.all (λe=>match e.key with| .str _ _=>true|_=>false)=true)(ni:nsIn K N "__init__"=some none):E0In K x:=⟨C,N,⟨B,b,a,kp,_,_,_,_,_,_,_,_,_,_,_,_,_,o⟩,rn nk al,ni⟩
theorem e1In_mk{f:Addr}{oc:Value}{od an:Option Addr}{sl:Array (Option Value)}{kV dc pm cd ct:Value}(b:nsIn K mainGlobals "MotifError"=some (some (.ref B)))(a:nsIn K mainGlobals x=some (some (.ref C)))(kp:keepIn K (.ref C)=true)(o:K.lookup C=some (excClassObj nm qn C N bs (.ref B::Exc.veLine) true sn sub ab col dd k0 k1 k2 k3 k5 "ValueError.__new__"))
  (j:EZ K (.ref C) "__init__"=some (some (.ref f))) (i:isFn K (.ref f)=true) (l:K.lookup f=some ⟨oc,od,.func (fnOf "__init__" q (bz st) (aH st) (ag st) .none kV dc pm an cd ct),sl⟩) (c:codeIn K cd q=true) (k:keepIn K (.ref f)=true):E1In K x q st:=⟨C,N,f,_,⟨B,b,a,kp,_,_,_,_,_,_,_,_,_,_,_,_,_,o⟩,j,i,gf l c k⟩
theorem eaIn_mk(a:nsIn K mainGlobals x=some (some (.ref C)))(b:EZ K (.ref C) "__setattr__"=some (some (.builtin "object.__setattr__"))):EaIn K x:=⟨C,a,b⟩
theorem eiIn_mk(a:nsIn K mainGlobals x=some (some (.ref C)))(b:readsIn K C (.type "type")=true)(c:findCls K (.ref C) (.type "type") "__init__"=some (.val (.builtin "ValueError.__init__")))(d:specialIn K (.ref C) "__getattribute__"=some (some (.builtin "type.__getattribute__"))):EiIn K x:=⟨C,a,b,c,d⟩
end
theorem EbIn.k(e:EbIn K)(X:K.In h)(G:h.Ns mainGlobals mg):∃ C N bm,ErrK K mg "MotifError" C N bm/\ErrN K N:=by
 obtain⟨C,N,k,n⟩:=e
 exact⟨C,N,_,⟨k.ns,mg_of X G k.ns,k.kp,k.ob,rk⟩,n.ok,n.no⟩
theorem EdIn.k{C N:Addr}(e:EdIn K x C N)(b:EbIn K)(X:K.In h)(G:h.Ns mainGlobals mg):∃ bm,ErrK K mg x C N bm:=by
 obtain⟨B,hB,k⟩:=e
 obtain⟨B',N',kb,n⟩:=b
 cases NsC.uniq kb.ns hB
 obtain⟨_,_,_,_,_,_,_,_,_,_,_,_,_,o⟩:=kb.ob
 exact⟨_,k.ns,mg_of X G k.ns,k.kp,k.ob,yH o rfl n.ok n.no⟩
theorem E0In.k(e:E0In K x)(b:EbIn K)(X:K.In h)(G:h.Ns mainGlobals mg):∃ C N bm,ErrK K mg x C N bm/\ErrN K N:=by
 obtain⟨C,N,k,n⟩:=e
 obtain⟨bm,z⟩:=k.k b X G
 exact⟨C,N,bm,z,n.ok,n.no⟩
def Txe(K:Ex)(mg:Str->Option Value)(x q:Str)(st:Stmt)(ps:List Str):Prop:=∃ C N bm f fd,ErrK K mg x C N bm/\EZ K (.ref C) "__init__"=some (some (.ref f))/\isFn K (.ref f)=true/\Fun K "__init__" q st f fd/\Binds K fd ps []
theorem E1In.txe(e:E1In K x q st)(b:EbIn K)(X:K.In h)(G:h.Ns mainGlobals mg)(bi:BindA "__init__" q st ps):Txe K mg x q st ps:=by
 obtain⟨C,N,f,fd,k,i,j,F⟩:=e
 obtain⟨bm,z⟩:=k.k b X G
 exact⟨C,N,bm,f,fd,z,i,j,F,F.binds bi⟩
theorem ErrK.a'{C N:Addr}{bm:List Value}(k:ErrK K mg x C N bm)(a:EaIn K x):∃ C cd,ErrA K x C cd:=by
 obtain⟨D,hD,sa⟩:=a
 cases NsC.uniq k.ns hD
 exact⟨C,k.a sa⟩
theorem E1In.a(e:E1In K x q st)(b:EbIn K)(a:EaIn K x)(X:K.In h)(G:h.Ns mainGlobals mg):∃ C cd,ErrA K x C cd:=by
 obtain⟨C,N,f,fd,k,_⟩:=e
 obtain⟨bm,z⟩:=k.k b X G
 exact z.a' a
theorem E1In.c(e:E1In K x q st)(b:EbIn K)(X:K.In h)(G:h.Ns mainGlobals mg):∃ C N bm,ErrK K mg x C N bm:=by
 obtain⟨C,N,f,fd,k,_⟩:=e
 obtain⟨bm,z⟩:=k.k b X G
 exact⟨C,N,bm,z⟩
theorem EiIn.b(e:EiIn K x)(X:K.In h)(G:h.Ns mainGlobals mg):∃ M,BaseK K mg x M:=by
 obtain⟨M,a,b,c,d⟩:=e
 exact⟨M,mg_of X G a,b,c,d⟩
theorem EgIn.g(e:EgIn K x)(a:∃ C cd,ErrA K x C cd)(n:NoIn K x f):ErrG K f x:=by
 obtain⟨C,h1,h2,h3⟩:=e
 obtain⟨D,cd,ea⟩:=a
 cases NsC.uniq ea.ns h1
 exact⟨C,cd,ea,h2,h3,n.all C h1⟩
def AllP(p:Str->Prop):List Str->Prop
 |[]=>True
 |a::l=>p a/\AllP p l
theorem AllP.mem{p:Str->Prop}:∀ {l:List Str},AllP p l->∀ x∈l,p x
 |_::_,h,_,.head _=>h.1
 |_::_,h,_,.tail _ m=>AllP.mem h.2 _ m
end
structure Bx where
 P:Program
 w:World
 K:Ex
 mg:Str->Option Value
 base:Heap
abbrev Bx.T(V:Bx)(x:Str)(st:Stmt)(ps:List Str):Prop:=Tx V.K V.mg x st ps
abbrev Bx.Tm(V:Bx)(x m q:Str)(st:Stmt)(ps:List Str):Prop:=Txm V.K x m q st ps
abbrev Bx.Ti(V:Bx)(x q:Str)(st:Stmt)(ps:List Str):Prop:=Txi V.K V.mg x q st ps
abbrev Bx.Te(V:Bx)(x q:Str)(st:Stmt)(ps:List Str):Prop:=Txe V.K V.mg x q st ps
abbrev Bx.m(V:Bx)(x:Str):Prop:=V.mg x=none
abbrev Bx.gi(V:Bx)(x:Str)(i:Int):Prop:=∃ t,V.mg x=some (.int i t)
abbrev Bx.gs(V:Bx)(x y:Str):Prop:=∃ t,V.mg x=some (.str y t)
abbrev Bx.a(V:Bx)(x f:Str):Prop:=ClsA V.K x f
abbrev Bx.i(V:Bx)(x:Str):Prop:=∃ C,ClsI V.K V.mg x C
abbrev Bx.D(V:Bx)(n:Nat)(x:Str)(ps:List Str)(S:SpD):Prop:=CalD V.P V.w V.K V.mg V.base n x ps S
abbrev Bx.X(V:Bx)(n:Nat)(x:Str)(ps:List Str)(S:SpX):Prop:=CalX V.P V.w V.K V.mg V.base n x ps S
abbrev Bx.MM(V:Bx)(n:Nat)(x:Str)(ps:List Str)(S:SpM):Prop:=CalMM V.P V.w V.K V.mg V.base n x ps S
abbrev Bx.M(V:Bx)(n:Nat)(x:Str)(ps:List Str)(S:SiD):Prop:=CalM V.P V.w V.K V.mg V.base n x ps S
abbrev Bx.E(V:Bx)(n:Nat)(x:Str)(ps:List Str)(S:SiD):Prop:=CalE V.P V.w V.K V.mg V.base n x ps S
abbrev Bx.Q(V:Bx)(n:Nat)(x m:Str)(ps:List Str)(S:SpM):Prop:=CalMth V.P V.w V.K V.mg V.base n x m ps (lSpM V.K S)
abbrev Bx.n(V:Bx)(x:Str):Prop:=∃ C N bm,ErrK V.K V.mg x C N bm/\ErrN V.K N
abbrev Bx.b(V:Bx)(x:Str):Prop:=∃ M,BaseK V.K V.mg x M
abbrev Bx.ea(V:Bx)(x:Str):Prop:=∃ C cd,ErrA V.K x C cd
abbrev Bx.xf(V:Bx)(x f:Str):Prop:=∀ C,nsIn V.K mainGlobals x=some (some (.ref C))->EZ V.K (.ref C) f=some none
abbrev Bx.x(V:Bx)(f:Str)(ys:List Str):Prop:=∀ y∈ys,ErrG V.K f y
section
variable {P:Program}{w:World}{K:Ex}{mg:Str->Option Value}{base:Heap}
theorem Txi.okI{x qual:Str}{st:Stmt}{N:List Str}{p0:Str}{ps:List Str}{k:Nat}{S:SiD}(T:Txi K mg x qual st (p0::ps))(F:FnScope (p0::N) (p0::ps) (ag st))(len:∀ ds R,S ds R->ds.length=ps.length)
  (a_:∀ (f:Addr) (cdv:Value) (A:Around) (outer:List Env) (s:Shared) (H:Hp) (E:XK) (J:Jx),Room k (A.deeper (envOfC qual (ag st) s.heap.objs.size f cdv))->
   ∃ t,WDI (cxOf (Exc.CX1 P w) P w K mg base (p0::N) qual (ag st) f cdv A outer s H E).nox x (aH st) t/\∀ ds R,S ds R->t (none::startD N ds) [] R):CalM P w K mg base (k+1) x (p0::ps) S:=by
 obtain⟨C,f,fd,a,b,c,d,e⟩:=T
 exact Cls.okIW d e F len a b c (a_ f)
theorem Txi.okIM{x qual:Str}{st:Stmt}{N:List Str}{p0:Str}{ps:List Str}{k:Nat}{S:SiD}(T:Txi K mg x qual st (p0::ps))(F:FnScope N (p0::ps) (ag st))(len:∀ ds R,S ds R->ds.length=ps.length)
  (a_:∀ (f:Addr) (cdv:Value) (A:Around) (outer:List Env) (s:Shared) (H:Hp) (E:XK) (J:Jm),Room k (A.deeper (envOfC qual (ag st) s.heap.objs.size f cdv))->XOkM (cxOf (Exc.CX1 P w) P w K mg base N qual (ag st) f cdv A outer s H E).nox->
   ∃ t,MSs (cxOf (Exc.CX1 P w) P w K mg base N qual (ag st) f cdv A outer s H E).nox (aH st) t/\∀ a ds R,(∀ z M x fs,¬ J.RM z M x fs)->S ds R->t {nx:=λ_ M'=>∃ fs,M'=[(a,.ins x fs)]/\R fs,rt:=λ_ _=>False} (startD N (.ptr a::ds)) [(a,.ins x [])]):CalM P w K mg base (k+1) x (p0::ps) S:=by
 obtain⟨C,f,fd,a,b,c,d,e⟩:=T
 exact Cls.okIM d e F len a b c (a_ f)
theorem Txe.okE{x qual:Str}{st:Stmt}{N:List Str}{p0:Str}{ps:List Str}{k:Nat}{S:SiD}(T:Txe K mg x qual st (p0::ps))(F:FnScope (p0::N) (p0::ps) (ag st))(len:∀ ds R,S ds R->ds.length=ps.length)
  (a_:∀ (f:Addr) (cdv:Value) (A:Around) (outer:List Env) (s:Shared) (H:Hp) (E:XK) (J:Jx),Room k (A.deeper (envOfC qual (ag st) s.heap.objs.size f cdv))->
   ∃ t,WDX (cxOf (Exc.CX1 P w) P w K mg base (p0::N) qual (ag st) f cdv A outer s H E).nox x (aH st) t/\∀ ds R,S ds R->t (none::startD N ds) [] R):CalE P w K mg base (k+1) x (p0::ps) S:=by
 obtain⟨C,N',bm,f,fd,a,b,c,d,e⟩:=T
 exact Cls.okEW d e F len a b c (a_ f)
end
section
variable {X:Cx}[J:Jx]{a b c e o e_ iter:Expr}{es:List Expr}{ta tb tc te to ti tj:TD}{tt:TDT}{t:TDA}{pos px:Pos}{x:Str}{scope:Scope}
theorem itR2{K:Ex}:ItOk K (pj (fY (lE K ti) (fY (lE K tj) tNil))) (jO ti tj):=λ{s H B F z P Q} kf rs h1 h2=>by
 refine⟨B,F,z,kf,rs,_,h1,λd1 v1 F1 H1 g1 h1 r1=>?_⟩
 refine⟨B,F1,z,kf.grow g1,rs.grow g1,_,h1,λd2 v2 F2 H2 g2 hd r2=>?_⟩
 split at hd
 ·rename_i lo m6
  obtain⟨bd,hd⟩:=hd
  have hl:((ET (m6 - lo).toNat).map λk=>D.int (lo+((k:Nat):Int))).length=(m6 - lo).toNat:=by simp
  refine⟨lo,m6,by rw[rep_int.mp r1,rep_int.mp r2],bd,h2 _ _ F2 H2 (g1.trans g2) hd ⟨λk F' H' G hk=>by rw[hl] at hk;exact hk,λk F' H' x H'' G hk hy=>?_,λF' H' G=>by show(m6 - lo).toNat<=_;rw[hl];exact ER _⟩⟩
  rw[hl] at hk
  obtain⟨e,rfl⟩:=hy
  exact⟨e,.int (lo+(k:Int)),by simp[hk],rep_int.mpr rfl⟩
 ·exact hd.elim
theorem rW(hc:X.calm=true)(S:CompScope X scope x)(hi:WDE X iter ti)(hq:∀ cl s₀ H₀ fp,WDT (bA X scope cl x s₀ H₀ fp) c tt)(he:∀ cl s₀ H₀ fp,WDE (bA X scope cl x s₀ H₀ fp) e_ te)(hs:∀ y,zFS X iter y:=by exact λ_=>rfl):
  WDE X (.ListComp e_ [⟨.Name x px,iter,[c],0⟩] scope pos) (qR (dItL ti) tt te):=⟨(pe_comp hc S (jt hi.out) (λa b c d=>qS (hq a b c d).out) (λa b c d=>(he a b c d).out) hs).anti λs H Q q=>gC (λ_ _ _=>cmpF.g) itL q⟩
theorem zZ{p1 p2:Pos}(hc:X.calm=true)(S:CompScope X scope x)(hm:X.mg "range"=none)(ha:WDE X a ti)(hb:WDE X b tj)(hq:∀ cl s₀ H₀ fp,WDT (bA X scope cl x s₀ H₀ fp) c tt)(he:∀ cl s₀ H₀ fp,WDE (bA X scope cl x s₀ H₀ fp) e_ te)(hg:Gl X "range":=by rfl)
  (hs:∀ y,zFS X (.Call (.Name "range" p1) [a,b] [] p2) y:=by exact λ_=>rfl) (j_:zSE X a [b]:=by rfl) (Jc:zSE X b []:=by rfl) (d_:starEach [a,b] X.env=[(false,eval a X.env),(false,eval b X.env)]:=by rfl) (Jd:starEach [b] X.env=[(false,eval b X.env)]:=by rfl):
  WDE X (.ListComp e_ [⟨.Name x px,.Call (.Name "range" p1) [a,b] [] p2,[c],0⟩] scope pos) (qR (jO ti tj) tt te):=⟨(pe_comp hc S (pk hg hm (bj ha.out (bj hb.out pa_nil Jc) j_) d_ Jd) (λa b c d=>qS (hq a b c d).out) (λa b c d=>(he a b c d).out) hs).anti λs H Q q=>gC (λ_ _ _=>cmpF.g) itR2 q⟩
def rX(ix:Nat)(D':TDI)(te:TD):TSD:=λE z=>D' z (cmpP te z λd=>match d with| .lst ys=>E.nx (z.set ix (some (.own ys)))|_=>False)
theorem Aa{K:Ex}{E:Ends}{s:L2.St}{H:Hp}{ix:Nat}{wi:TI}{D':TDI}(hI:ItOk K wi D')(q:lS K (rX ix D' te) E s H):tAsg (fF wi (lT K dT1) (lE K te)) (fj ix) E s H:=by
 obtain⟨B,F0,F,z,k,rs,ED,h,e⟩:=q
 refine hI k.kf rs h λitems J F1 H1 g1 hg it=>qT (Q:=λv H=>E.nx (s.set ix (some v)) H) k.kf g1 rs (λD ys us F' H' hH hF GG hu ry hR=>?_) it (cmpP.g hg)
 have r2:=(rs.grow GG).setOwn (i:=ix) (a:=D) (k.bh.free hH) hF ry λj dj _ q1 q2=>by
  obtain⟨a,vs,p1,p2,_⟩:=rs.own j dj q1
  rw[p1] at q2
  cases q2
  rw[hH] at p2
  cases p2
 rw[re hu] at r2
 exact e.nx _ _ F' H' (k.grow GG) hR r2
theorem Ab(ix:Nat){y:Str}{py h_:Pos}(hc:X.calm=true)(S:CompScope X scope x)(hN:X.N.Nodup)(hi:WDE X iter ti)(he:∀ cl s₀ H₀ fp,WDE (bA X scope cl x s₀ H₀ fp) e_ te)(I_:X.N[ix]?=some y:=by rfl)(hy:Loc X.env.scope y:=by first|exact Or.inl rfl|exact Or.inr rfl)
  (hf:zFN X y:=by first|exact .inl rfl|exact .inr rfl|assumption) (v3:swapsWith (.ListComp e_ [⟨.Name x px,iter,[],0⟩] scope pos) (some (.Name y py)) h_.line X.env=pure true:=by rfl) (hs:∀ y,zFS X iter y:=by exact λ_=>rfl):
  WDS X (.Assign [.Name y py] (.ListComp e_ [⟨.Name x px,iter,[],0⟩] scope pos) h_) (rX ix (dItS ti) te):=⟨(jM hc S (yU hi.out) (λ_ _ _ _=>gB) (λa b c d=>(he a b c d).out) hN I_ hy hf v3 hs).anti λE s H q=>Aa itS q⟩
theorem intsAre_of:∀ {ns:List Int} {us:List Value},Vals (ns.map V.int) us->IntsAre us ns
 |[],_,.nil=> .nil
 |n::ns,_,.cons ⟨t,rfl⟩ r=> .cons _ _ (intsAre_of r)
theorem Ac(hc:X.calm=true):bw X (.builtin "min") (λxs H Q=>∃ (p:Addr) (ns:List Int),xs=[.ref p]/\SqL X.K H p (ns.map V.int)/\0<ns.length/\∀ m,m∈ns->(∀ a∈ns,m<=a)->Q (.int m) H):=by
 intro pins s σ H xs us Q I r h
 obtain⟨p,ns,rfl,hq,j3,q⟩:=h
 obtain⟨u,rfl,rx⟩:=bD r
 cases rx
 obtain⟨its,r',pl,hz⟩:=I.list hq
 have hi:=intsAre_of r'
 have hl:=pl.isList
 obtain⟨xs,e⟩:=hi.allInts.items
 have hns:ns=xs.toList.map (·.1):=by rw[<- hi.numsOf,<- nums_intItems,<- e]
 have g6:0<xs.size:=by
  have h3:=j3;rw[hns,E1,FS] at h3;exact h3
 rw[e] at hl
 refine min_intList (I.ok.hd hc) hl g6 λv h' tk hv hk=>?_
 obtain⟨t,rfl⟩:=intItems_at hv
 obtain⟨h1,h2⟩:=argBest_lt (numAt xs) (xs.size - 1)
 refine⟨.int _,H,I.kept hk,⟨t,rfl⟩,q _ ?_ λa ha=>?_⟩
 ·rw[hns,numAt_eq];exact getD_mem (by rw[E1,FS];lia)
 ·rw[hns] at ha
  obtain⟨j,hj,rfl⟩:=mem_getD ha
  rw[E1,FS] at hj
  rw[<- numAt_eq];exact h2 j (by lia)
def rdMinL:RDn:=λds R=>match ds with|[.lst xs]=>∃ ns:List Int,xs=ns.map D.int/\0<ns.length/\∀ m,m∈ns->(∀ a∈ns,m<=a)->R (.int m)|_=>False
theorem Ad{K:Ex}:bO K (λxs H Q=>∃ (p:Addr) (ns:List Int),xs=[.ref p]/\SqL K H p (ns.map V.int)/\0<ns.length/\∀ m,m∈ns->(∀ a∈ns,m<=a)->Q (.int m) H) rdMinL:=by
 intro ds vs F H R Q fh h rx q
 unfold rdMinL at h
 split at h
 ·obtain⟨ns,rfl,hl,h⟩:=h
  obtain⟨v,r,rfl,h1,h2⟩:=reps_cons.mp rx
  rw[reps_nil.mp h2]
  obtain⟨a,us,rfl,hq,rs⟩:=rep_lst.mp h1
  rw[Reps.ints.mp rs] at hq
  exact⟨a,ns,rfl,fh.seq (SqL.of hq),hl,λm h1 h2=>q _ _ F H (Grow.refl fh) (h m h1 h2) (rep_int.mpr rfl)⟩
 ·exact h.elim
theorem rY{p:Pos}(hc:X.calm=true)(hm:X.mg "min"=none)(ha:WDA X [e] t)(hg:Gl X "min":=by rfl)(he:zSE X e []:=by rfl)(b_:zPL X pos []:=by rfl):WDE X (.Call (.Name "min" p) [e] [] pos) (dCB rdMinL t):=⟨fw (Ac hc) Ad hm PyProof.Rows.boot_min ha.out hg (by decide) (by decide) he b_⟩
def rdTuple:RDn:=λds R=>match ds with|[.lst xs]=>R (.tup xs)|[.tup xs]=>R (.tup xs)|_=>False
theorem Ae{K:Ex}:bO K (λxs H Q=>∃ p ys,xs=[.ref p]/\((SqL K H p ys/\∀ l,H l=none->Q (.ref l) (upd H l (.tup ys)))\/(SqT K H p ys/\Q (.ref p) H))) rdTuple:=by
 intro ds vs F H R Q fh h rx q
 unfold rdTuple at h
 split at h
 ·obtain⟨v,r,rfl,h1,h2⟩:=reps_cons.mp rx
  rw[reps_nil.mp h2]
  obtain⟨a,us,rfl,hq,rs⟩:=rep_lst.mp h1
  exact⟨a,us,rfl,.inl ⟨fh.seq (SqL.of hq),λl hl=>q _ _ _ _ (Grow.new fh hl _) h (rep_tupS.mpr ⟨l,us,rfl,az,rs.mono (aQ (fh.free hl) _)⟩)⟩⟩
 ·obtain⟨v,r,rfl,h1,h2⟩:=reps_cons.mp rx
  rw[reps_nil.mp h2]
  obtain⟨a,us,rfl,hq,rs⟩:=rep_tup_mp h1
  exact⟨a,us,rfl,.inr ⟨fh.tup hq,q _ _ F H (Grow.refl fh) h h1⟩⟩
 ·exact h.elim
theorem Af{p:Pos}(hm:X.mg "tuple"=none)(ha:WDA X [e] t)(hg:Gl X "tuple":=by rfl)(he:zSE X e []:=by rfl):WDE X (.Call (.Name "tuple" p) [e] [] pos) (dCB rdTuple t):=⟨gx wL Ae hm PyProof.Rows.boot_tuple ha.out hg (by decide) (by decide) he⟩
def rSCount:RTx:=λy ds R=>match ds with|[.str p]=>R (.int (Builtin.Str.occurrences y p 0 y.length (y.length+1)).length)|_=>False
theorem Ag:MtS X "str.count" rSCount:=by
 refine⟨λx vs H Q=>∃ y p,x= .str y/\vs=[.str p]/\Q (.int (Builtin.Str.occurrences y p 0 y.length (y.length+1)).length) H,?_,?_⟩
 ·intro pins s σ H x vs v us Q I rx rv h
  obtain⟨y,p,rfl,rfl,q⟩:=h
  obtain⟨t,rfl⟩:=rx
  obtain⟨u,rfl,t',rfl⟩:=bD rv
  exact SC.count ⟨.int _,H,I.tok _,⟨_,rfl⟩,q⟩
 ·intro y ds vs F H R Q r h q
  unfold rSCount at h
  split at h
  ·obtain⟨v,vr,rfl,h1,h2⟩:=reps_cons.mp r
   rw[reps_nil.mp h2,rep_str.mp h1]
   exact⟨_,_,rfl,rfl,q _ _ (λ_=>rep_int.mpr rfl) h⟩
  ·exact h.elim
theorem rZ{apos cpos:Pos}(ho:WDE X o to)(ha:WDA X [e] t)(b9:attributeBase o "count" X.env (eval o X.env)=eval o X.env:=by rfl)
  (d9:zHF X cpos [e]:=by rfl)
  (c7:(apos.endLine==cpos.line)=true:=by rfl) (hs:zSE X e []:=by rfl):WDE X (.Call (.Attribute o "count" apos) [e] [] cpos) (dTx rSCount to t):=⟨jS PySem.F.slot_str_count PySem.F.type_str_count Ag ho.out ha.out b9 d9 c7 hs⟩
def se(is:List Nat)(ti:TDI)(tb:TSD):TSD:=λE z=>ti z λds=>∃ W:Nat->SD->Prop,W 0 z/\(∀ (k:Nat) x z,ds[k]?=some x->W k z->tb {E with nx:=W (k+1),ct:=W (k+1),bk:=E.nx} (aS is [.int k,x] z))/\∀ z,W ds.length z->E.nx z
theorem sf{K:Ex}{B F0 F1 H1:Hp}{z:SD}{s:L2.St}{E:Ends}{ED:EndsD}{It':It}{g:TG}{tb:TSD}{tbv:TS}{ds:List D}{is:List Nat}(k1:Kept B F0 F1 H1)(t6:RepS K B F1 H1 z s)(e:EndsOk K B F0 ED E)
  (go:∀ k F' H',Same F1 F'->Same F' H'->k<ds.length->It'.go k H') (stop:∀ F' H',Same F1 F'->Same F' H'->It'.stop ds.length H')
  (yld:∀ k F' H' x H'',Same F1 F'->Same F' H'->k<ds.length->It'.yld k H' x H''->∃ T d v,H' T=none/\x= .ref T/\H''=upd H' T (.tup [.int k,v])/\ds[k]?=some d/\Rep K F' d v)
  (hg:∀ (dd:List D) (vs:List V) (T:Addr) (z:SD) (s:L2.St) (F H:Hp) (Q:L2.St->Hp->Prop),dd.length=2->H T=some (.tup vs)->Reps K F dd vs->RepS K B F H z s->(∀ s',RepS K B F H (aS is dd z) s'->Q s' H)->g (.ref T) s H Q)
  (Md:∀ E s H,lS K tb E s H->tbv E s H)
  (hd:∃ W:Nat->SD->Prop,W 0 z/\(∀ (k:Nat) x z,ds[k]?=some x->W k z->tb {ED with nx:=W (k+1),ct:=W (k+1),bk:=ED.nx} (aS is [.int k,x] z))/\∀ z,W ds.length z->ED.nx z):
  ∃ W:Nat->Nat->L2.St->Hp->Prop,(∃ m,W 0 m s H1)/\∀ i m σ H,W i m σ H->
   (It'.stop i H/\E.nx σ H)\/(It'.go i H/\∃ N:L2.St->Hp->Prop,(∀ σ' H',N σ' H'->∃ m',m'<m/\W (i+1) m' σ' H')/\∀ x H',It'.yld i H x H'->g x σ H' λσ2 H2=>tbv {E with nx:=N,ct:=N,bk:=E.nx} σ2 H2):=by
 obtain⟨W,w0,c5,out⟩:=hd
 refine⟨λk m s' H'=>m=ds.length - k/\k<=ds.length/\∃ F' z',Kept B F0 F' H'/\Same F1 F'/\RepS K B F' H' z' s'/\W k z',⟨ds.length,by simp,Fp _,F1,z,k1,Same.refl F1,t6,w0⟩,?_⟩
 rintro k m s' H' ⟨rfl,hk,F',z',k',g',r',w'⟩
 by_cases gV:k<ds.length
 ·refine .inr ⟨go k F' H' g' k'.fh gV,λs3 H3=>∃ F3 z3,Kept B F0 F3 H3/\Same F1 F3/\RepS K B F3 H3 z3 s3/\W (k+1) z3,λs3 H3 h3=>⟨ds.length - (k+1),by lia,rfl,gV,h3⟩,λx H'' hy=>?_⟩
  obtain⟨T,d,v,hT,rfl,rfl,hd,rd⟩:=yld k F' H' x H'' g' k'.fh gV hy
  have gn:=Grow.new k'.fh hT (.tup [.int k,v])
  have k2:=k'.grow gn
  have rp:Reps K (upd F' T (.tup [.int k,v])) [.int k,d] [.int k,v]:=reps_cons.mpr ⟨_,_,rfl,rep_int.mpr rfl,eA (rd.mono gn.ff)⟩
  refine hg [.int k,d] _ T z' s' _ _ _ rfl az rp (r'.grow gn) λs2 Jt=>Md _ _ _ ?_
  have gF:Same F1 (upd F' T (.tup [.int k,v])):=g'.trans gn.ff
  refine⟨B,upd F' T (.tup [.int k,v]),upd F' T (.tup [.int k,v]),_,⟨k2.bh,k2.fh,Same.refl _,λb h1 _=>h1,k2.eb,k2.jf.trans k2.f0,λb h1 h2=>k2.out b (k2.jo b h1 h2) h2⟩,Jt,_,c5 k d z' hd w',?_⟩
  have up:∀ {F3 H3:Hp},Kept B (upd F' T (.tup [.int k,v])) F3 H3->Kept B F0 F3 H3:=λk3=>⟨k3.bh,k3.fh,k2.f0.trans k3.f0,λb h1 h2=>k3.out b (k2.out b h1 h2) h2,k2.eb,k2.jf,k2.jo⟩
  exact⟨λz3 s3 F3 H3 k3 h3 r3=>⟨F3,z3,up k3,gF.trans k3.f0,r3,h3⟩,λd v F3 H3 k3=>e.rt d v F3 H3 (up k3),λz3 s3 F3 H3 k3=>e.nx z3 s3 F3 H3 (up k3),λz3 s3 F3 H3 k3 h3 r3=>⟨F3,z3,up k3,gF.trans k3.f0,r3,h3⟩⟩
 ·have ek:k=ds.length:=by lia
  subst ek
  exact .inl ⟨stop F' H' g' k'.fh,e.nx z' s' F' H' k' (out z' w') r'⟩
theorem Ah{es:List Expr}{x1:Nat}{tp p1 p2:Pos}{is:List Nat}{body:List Stmt}{tb:TSD}(hp:PassesOwn (model X.prog X.w) X.A X.env X.xe)(hc:X.calm=true)(hm:X.mg "enumerate"=none)(he:WDE X e te)(hG:DGs X es is)(hb:WDSs X body tb)(b7:is.length=2:=by rfl)(hg:Gl X "enumerate":=by rfl)
  (hn:(assignEach es X.env).length=2:=by rfl) (k_:(assignEach es X.env).findIdx? (·.1)=none:=by rfl)
  (hs:∀ y,zFS X (.Call (.Name "enumerate" p1) [e] [] p2) y:=by exact λ_=>rfl) (j_:zSE X e []:=by rfl) (d_:starEach [e] X.env=[(false,eval e X.env)]:=by rfl):
  WDS X (.For (.Tuple es x1 tp) (.Call (.Name "enumerate" p1) [e] [] p2) body [] pos) (se is (dItL te) tb):=by
 obtain⟨ug,Jf,kk⟩:=hG
 refine⟨(cO hp hc (rN hg hm (bj he.out pa_nil j_) d_) (fo hc Jf hn k_) hb.out hs).anti λE s H q=>?_⟩
 obtain⟨B,F0,F,z,kp,rs,ED,h,e⟩:=q
 refine⟨B,F,z,kp.kf,rs,_,h,λd v F1 H1 g1 hd rd=>?_⟩
 have key:∀ (ds:List D) (p:Addr) (vs:List V),SqL X.K F1 p vs->Reps X.K F1 ds vs->(∃ W:Nat->SD->Prop,W 0 z/\(∀ (k:Nat) x z,ds[k]?=some x->W k z->tb {ED with nx:=W (k+1),ct:=W (k+1),bk:=ED.nx} (aS is [.int k,x] z))/\∀ z,W ds.length z->ED.nx z)->_:=λds p vs hq rr hd=>
  sf (It':=Itel X.K p) (g:=gTup X.K 2 ug) (tbv:=lS X.K tb) (E:=E) (kp.grow g1) (rs.grow g1) e (λk F' H' s1 s2 hk=>⟨vs,vs[k]'(by rw[rr.length];exact hk),s2.seq (s1.seq hq),by simp[rr.length,hk]⟩) (λF' H' s1 s2=>⟨vs,s2.seq (s1.seq hq),by rw[rr.length];exact ER _⟩) (λk F' H' x H'' s1 s2 hk hy=>by
   obtain⟨T,v,hT,e1,e2,hv⟩:=hy
   obtain⟨d,hd,rd⟩:=rr.get' (hv vs (s2.seq (s1.seq hq)))
   exact⟨T,d,v,hT,e1,e2,hd,rd.mono s1⟩) (λdd l_ T z s F H Q hl hT rp y' hQ=>⟨T,l_,rfl,SqT.of hT,by rw[rp.length];exact hl,kk dd l_ z s B F H Q (by rw[hl,b7]) rp y' hQ⟩) (λ_ _ _ h=>h) hd
 split at hd
 ·obtain⟨p,vs,rfl,hq,rr⟩:=rep_lst.mp rd
  exact⟨p,rfl,⟨vs,g1.fh.seq (SqL.of hq)⟩,key _ p vs (SqL.of hq) rr hd⟩
 ·obtain⟨p,vs,rfl,hq,rr⟩:=rep_rol.mp rd
  exact⟨p,rfl,⟨vs,g1.fh.seq hq⟩,key _ p vs hq rr hd⟩
 ·exact hd.elim
theorem Ai{es:List Expr}{x1:Nat}{tp p1 p2:Pos}{is:List Nat}{body:List Stmt}{tb:TSD}(hp:PassesOwn (model X.prog X.w) X.A X.env X.xe)(hc:X.calm=true)(hm:X.mg "enumerate"=none)(he:WDE X e te)(hG:DGs X es is)(hb:WDSs X body tb)(b7:is.length=2:=by rfl)(hg:Gl X "enumerate":=by rfl)
  (hn:(assignEach es X.env).length=2:=by rfl) (k_:(assignEach es X.env).findIdx? (·.1)=none:=by rfl)
  (hs:∀ y,zFS X (.Call (.Name "enumerate" p1) [e] [] p2) y:=by exact λ_=>rfl) (j_:zSE X e []:=by rfl) (d_:starEach [e] X.env=[(false,eval e X.env)]:=by rfl):
  WDS X (.For (.Tuple es x1 tp) (.Call (.Name "enumerate" p1) [e] [] p2) body [] pos) (se is (dItS te) tb):=by
 obtain⟨ug,Jf,kk⟩:=hG
 refine⟨(cO hp hc (rO hg hm (bj he.out pa_nil j_) d_) (fo hc Jf hn k_) hb.out hs).anti λE s H q=>?_⟩
 obtain⟨B,F0,F,z,kp,rs,ED,h,e⟩:=q
 refine⟨B,F,z,kp.kf,rs,_,h,λd v F1 H1 g1 hd rd=>?_⟩
 split at hd
 ·rename_i x
  obtain⟨ha,hd⟩:=hd
  have hl:=gM x
  refine⟨x,by rw[rep_str.mp rd],ha,sf (It':=Ites x) (kp.grow g1) (rs.grow g1) e (λk F' H' s1 s2 hk=>?_) (λF' H' s1 s2=>?_) (λk F' H' x H'' s1 s2 hk hy=>?_) (λdd l_ T z s F H Q hl hT rp y' hQ=>?_) (λ_ _ _ h=>h) hd⟩
  ·rw[hl] at hk;exact hk
  ·exact hl
  ·obtain⟨T,c,hT,e1,e2,hc⟩:=hy
   exact⟨T,.str ⟨#[c]⟩,.str ⟨#[c]⟩,hT,e1,e2,jR hc,rep_str.mpr rfl⟩
  ·exact⟨T,l_,rfl,SqT.of hT,by rw[rp.length];exact hl,kk dd l_ z s B F H Q (by rw[hl,b7]) rp y' hQ⟩
 ·exact hd.elim
def Aj(r r':RD2)(ta tb tc:TD):TD:=λz R=>ta z λx=>tb z λy=>r x y λd=>∃ k,d= .bl k/\(k=true->tc z λw=>r' y w R)/\(k=false->R (.bl false))
theorem Ak{op IP:CmpOp}{r r':R2}{rd K9:RD2}(ho:OpR X (compareOp op) r)(u9:OpR X (compareOp IP) r')(L:aU X.K r rd)(L':aU X.K r' K9)(ha:WDE X a ta)(hb:WDE X b tb)(hc:WDE X c tc)(hm:lastMarks [op,IP] [b,c]=false:=by with_unfolding_all rfl):WDT X (.Compare a [op,IP] [b,c] pos) (dTst (Aj rd K9 ta tb tc)):=by
 refine⟨(vL ho u9 ha.out hb.out hc.out hm).anti λs H Q q=>?_⟩
 obtain⟨B,F,z,kf,rs,R,h1,h2⟩:=q
 refine⟨B,F,z,kf,rs,_,h1,λx u F1 H1 g1 hx rx=>?_⟩
 refine⟨B,F1,z,kf.grow g1,rs.grow g1,_,hx,λy v F2 H2 g2 hy ry=>?_⟩
 refine L x y u v F2 H2 _ _ g2.fh hy (rx.mono g2.ff) ry λd w F3 H3 g3 hd rd=>?_
 obtain⟨k,rfl,hT,hF⟩:=hd
 cases k with
 |true=>
  refine⟨true,rep_bl.mp rd,ite_tt ?_⟩
  refine⟨B,F3,z,((kf.grow g1).grow g2).grow g3,((rs.grow g1).grow g2).grow g3,_,hT rfl,λw' v' F4 H4 g4 hw g8=>?_⟩
  refine L' y w' v v' F4 H4 _ _ g4.fh hw ((ry.mono g3.ff).mono g4.ff) g8 λd' w2 F5 H5 g5 f9 K9=>?_
  split at f9
  ·exact⟨_,rep_bl.mp K9,h2 _ F5 H5 (g1.trans (g2.trans (g3.trans (g4.trans g5)))) f9⟩
  ·exact f9.elim
 |false=>exact⟨false,rep_bl.mp rd,ite_ff ⟨false,rfl,h2 _ F3 H3 (g1.trans (g2.trans g3)) (hF rfl)⟩⟩
end
end My
end
section
namespace My
open PySem PySem.Spec PyProof.Rows L2
theorem b64{w:Int}(h:0<w)(h':w<=720): -(2 ^ 64)<w/\w<2 ^ 64:=by lia
theorem s64{s w:Int}(h:0<=s)(h':s<w)(Qg:w<=720): -(2 ^ 64)<s/\s<2 ^ 64:=by lia
theorem d30{w:Int}(h:0<w)(h':w<=720):0<w/\w<1073741824:=by lia
theorem ab24{x y:Int}(h:x.natAbs<=12)(h':y.natAbs<=12):(x+y).natAbs<=24:=by lia
theorem sq0(a:Int):0<=a*a:=(HH 0 a).elim (λq=>G4 q q) (λq=>Int.mul_nonneg_of_nonpos_of_nonpos q q)
theorem u64{w:Int}(h:w=1\/w=-1\/w=0): -(2 ^ 64)<w/\w<2 ^ 64:=by lia
theorem n64{w:Int}{k:Nat}(h:w.natAbs<=k)(hk:k<=1073741823:=by decide): -(2 ^ 64)<w/\w<2 ^ 64:=by lia
theorem i64{w:Int}{a b:Int}(h:a<=w)(h':w<=b)(ha: -1000000000001<=a:=by decide)(hb:b<=1000000000001:=by decide): -(2 ^ 64)<w/\w<2 ^ 64:=by lia
theorem fdm(a b:Int)(hb:b≠0):(a - a.fdiv b*b).natAbs<b.natAbs/\(a.fdiv b).natAbs<=a.natAbs+1:=by
 have e:=Int.fmod_def a b
 have e2:a - a.fdiv b*b=a.fmod b:=by rw[e,Fe]
 rw[e2]
 have r:(a.fmod b).natAbs<b.natAbs:=by
  rcases(by lia:0<b\/b<0) with h|h
  ·have h1:=HI a h
   have h2:=HJ a h
   lia
  ·have h1:=HI (-a) (show 0< -b by lia)
   have h2:=HJ (-a) (show 0< -b by lia)
   rw[Int.neg_fmod_neg] at h1 h2
   lia
 refine⟨r,?_⟩
 have e3:(b*a.fdiv b).natAbs=b.natAbs*(a.fdiv b).natAbs:=Gd _ _
 have e4:=Int.mul_fdiv_self a b
 rcases Gb (a.natAbs+1) (a.fdiv b).natAbs with c|c
 ·have h1:b.natAbs*(a.natAbs+2)<=b.natAbs*(a.fdiv b).natAbs:=Nat.mul_le_mul_left _ c
  have h2:b.natAbs*(a.natAbs+2)=b.natAbs*a.natAbs+2*b.natAbs:=by rw[Nat.mul_add,Nat.mul_comm _ 2]
  have h3:1*a.natAbs<=b.natAbs*a.natAbs:=Nat.mul_le_mul_right _ (by lia)
  lia
 ·exact c
def Uni(a b c d p0 p1 q0 q1:Int):Prop:=∃ m n k l:Int,(m*l - n*k=1\/m*l - n*k=-1)/\p0=m*a+n*c/\p1=m*b+n*d/\q0=k*a+l*c/\q1=k*b+l*d
theorem Uni.refl(a b c d:Int):Uni a b c d a b c d:=⟨1,0,0,1,.inl (by decide),by lia,by lia,by lia,by lia⟩
theorem Uni.step{a b c d p0 p1 q0 q1:Int}(t:Int)(h:Uni a b c d p0 p1 q0 q1):Uni a b c d q0 q1 (p0 - t*q0) (p1 - t*q1):=by
 obtain⟨m,n,k,l,hd,rfl,rfl,rfl,rfl⟩:=h
 refine⟨k,l,m - t*k,n - t*l,?_,rfl,rfl,by grind,by grind⟩
 rcases hd with h|h
 ·right;grind
 ·left;grind
theorem Uni.neg{a b c d p0 p1 q0 q1:Int}(h:Uni a b c d p0 p1 q0 q1):Uni a b c d (-p0) (-p1) q0 q1:=by
 obtain⟨m,n,k,l,hd,rfl,rfl,rfl,rfl⟩:=h
 refine⟨-m,-n,k,l,?_,by grind,by grind,rfl,rfl⟩
 rcases hd with h|h
 ·right;grind
 ·left;grind
theorem Uni.inv{a b c d p0 p1 q0 q1:Int}(h:Uni a b c d p0 p1 q0 q1):Uni p0 p1 q0 q1 a b c d:=by
 obtain⟨m,n,k,l,hd,rfl,rfl,rfl,rfl⟩:=h
 rcases hd with h|h
 ·exact⟨l,-n,-k,m,.inl (by grind),by grind,by grind,by grind,by grind⟩
 ·exact⟨-l,n,k,-m,.inr (by grind),by grind,by grind,by grind,by grind⟩
theorem Uni.det{a b c d p0 p1 q0 q1:Int}(h:Uni a b c d p0 p1 q0 q1):p0*q1 - p1*q0=a*d - b*c\/p0*q1 - p1*q0=-(a*d - b*c):=by
 obtain⟨m,n,k,l,hd,rfl,rfl,rfl,rfl⟩:=h
 rcases hd with h|h
 ·left;grind
 ·right;grind
def Lev(a b c d p0 p1 q0:Int):Prop:=0<=p1/\Uni a b c d p0 p1 q0 0
def FamOf(a b c d w h s:Int):Prop:=0<w/\0<h/\0<=s/\s<w/\Uni a b c d w 0 s h
theorem Al(x:Int):(if x<0 then -x else x)=x\/(if x<0 then -x else x)=-x:=by
 split<;>simp
theorem Am{x:Int}(h:x≠0):0<(if x<0 then -x else x):=by split<;>lia
theorem fK{a b c d p0 p1 q0:Int}(hn:¬ a*d=b*c)(h:Lev a b c d p0 p1 q0):FamOf a b c d (if q0<0 then -q0 else q0) p1 (p0 % (if q0<0 then -q0 else q0)):=by
 obtain⟨hp,hu⟩:=h
 have dt:=hu.det
 have Ph:q0≠0:=by
  rintro rfl
  simp at dt
  lia
 have Qh:p1≠0:=by
  rintro rfl
  simp at dt
  lia
 have hw:=Am Ph
 have hs:=Al q0
 generalize (if q0<0 then -q0 else q0)=w at hw hs
 refine⟨hw,by lia,Fw _ (by lia),Fx _ hw,?_⟩
 have em:=Fy p0 w
 generalize p0 % w=s at em
 generalize p0 / w=t at em
 obtain⟨m,n,k,l,hd,e1,e2,e3,e4⟩:=hu
 rcases hs with e|e
 ·refine⟨k,l,m - t*k,n - t*l,?_,by grind,by grind,by grind,by grind⟩
  rcases hd with h|h
  ·right;grind
  ·left;grind
 ·refine⟨-k,-l,m+t*k,n+t*l,?_,by grind,by grind,by grind,by grind⟩
  rcases hd with h|h
  ·left;grind
  ·right;grind
theorem in_fam{w h s x y i j:Int}(hh:0<h)(ex:x=i*w+j*s)(ey:y=j*h):y % h=0/\(x - y / h*s) % w=0:=by
 subst ex ey
 rw[Ft _ (by lia)]
 refine⟨GF _ _,?_⟩
 have e:i*w+j*s - j*s=i*w:=by lia
 rw[e]
 exact GF _ _
theorem FamOf.first{a b c d w h s:Int}(f:FamOf a b c d w h s):b % h=0/\(a - b / h*s) % w=0:=by
 obtain⟨hw,hh,_,_,hu⟩:=f
 obtain⟨m,n,k,l,_,e1,e2,e3,e4⟩:=hu.inv
 exact in_fam (i:=m) (j:=n) hh e1 (by lia)
theorem FamOf.second{a b c d w h s:Int}(f:FamOf a b c d w h s):d % h=0/\(c - d / h*s) % w=0:=by
 obtain⟨hw,hh,_,_,hu⟩:=f
 obtain⟨m,n,k,l,_,e1,e2,e3,e4⟩:=hu.inv
 exact in_fam (i:=k) (j:=l) hh e3 (by lia)
theorem si{a b c d u v i j:Int}(eu:u=i*a+j*c)(ev:v=i*b+j*d):(u*d - v*c).fmod (a*d - b*c)=0/\(a*v - b*u).fmod (a*d - b*c)=0:=by
 subst eu ev
 refine⟨G5 ⟨i,by grind⟩,G5 ⟨j,by grind⟩⟩
theorem FamOf.cells{a b c d w h s:Int}(f:FamOf a b c d w h s):w*h=a*d - b*c\/w*h=-(a*d - b*c):=by
 have:=f.2.2.2.2.det
 simpa using this
theorem bx{a d:Int}{A B:Nat}(h1:a.natAbs<=A)(h2:d.natAbs<=B):(a*d).natAbs<=A*B:=by
 rw[Gd];exact G6 h1 h2
theorem cU{w h:Int}(hw:0<w)(hh:0<h):w<=w*h/\h<=w*h:=by
 have h1:=G7 (show 1<=h by lia) (show 0<=w by lia)
 have h2:=Fg (show 1<=w by lia) (show 0<=h by lia)
 lia
theorem FamOf.bd{a b c d w h s:Int}(f:FamOf a b c d w h s){N:Nat}(hN:(a*d - b*c).natAbs<=N):w<=N/\h<=N/\s<N:=by
 obtain⟨h1,h2⟩:=cU f.1 f.2.1
 have h3:=f.cells
 have h4:=f.2.2.2.1
 lia
def Meas(x y g u:Int):Prop:=0<=g/\(∃ i,x=i*g)/\(∃ j,y=j*g)/\∃ n,g=u*x+n*y
theorem sj{x y u g q:Int}(h:0<=g/\∃ m n k l:Int,(m*l - n*k=1\/m*l - n*k=-1)/\u=m*1+n*0/\g=m*x+n*y/\q=k*1+l*0/\0=k*x+l*y):Meas x y g u:=by
 obtain⟨h0,m,n,k,l,hd,e1,e2,e3,e4⟩:=h
 refine⟨h0,?_,?_,n,by grind⟩
 ·rcases hd with h|h
  ·exact⟨l,by grind⟩
  ·exact⟨-l,by grind⟩
 ·rcases hd with h|h
  ·exact⟨-k,by grind⟩
  ·exact⟨k,by grind⟩
theorem Meas.pos{x y g u:Int}(h:Meas x y g u)(hx:0<x):0<g:=by
 obtain⟨h0,⟨i,hi⟩,_⟩:=h
 rcases(by lia:g=0\/0<g) with e|e
 ·subst e;simp at hi;lia
 ·exact e
theorem Meas.le{x y g u:Int}(h:Meas x y g u)(hx:0<x):g<=x:=by
 have hg:=h.pos hx
 obtain⟨h0,⟨i,hi⟩,_⟩:=h
 have Qi:0<i:=by
  rcases(by lia:i<=0\/0<i) with e|e
  ·have:=FM e h0
   lia
  ·exact e
 have:=Fg (show 1<=i by lia) h0
 lia
structure MetR(w1 h1 s1 w2 h2 s2 w h s A:Int):Prop where
 w0:0<w
 h0:0<h
 s0:0<=s
 sw:s<w
 in1:∃ i,w=i*w1
 in2:∃ i,w=i*w2
 up1:∃ i j,s=i*w1+j*s1/\h=j*h1
 up2:∃ i j,s=i*w2+j*s2/\h=j*h2
 A0:0<A
 cells:w*h*A=w1*h1*w2*h2
 d11:A∣w1*h1
 d12:A∣w1*h2
 d21:A∣w2*h1
 d22:A∣w2*h2
 ds:A∣s1*h2 - h1*s2
 all:∀ x y:Int,(∃ i j,x=i*w1+j*s1/\y=j*h1)->(∃ i j,x=i*w2+j*s2/\y=j*h2)->∃ i j,x=i*w+j*s/\y=j*h
 comb:∀ G:Int,G∣w1*h1->G∣w1*h2->G∣w2*h1->G∣w2*h2->G∣s1*h2 - h1*s2->G∣A
theorem dG{x y:Int}(h:0<x*y)(hy:0<y):0<x:=by
 rcases(by lia:x<=0\/0<x) with e|e
 ·have:=FM e (show 0<=y by lia)
  lia
 ·exact e
theorem ke{a b c:Int}(ha:0<a)(h:a*b=a*c):b=c:=G8 (by lia) h
theorem r1(k j c:Int):k*(j*c)=j*(c*k):=by grind
theorem r2(j u c n d:Int):j*(u*c+n*d)=u*(j*c)+n*d*j:=by grind
theorem r3(u j d n j1:Int):u*(j*d)+n*d*j1=d*(u*j+n*j1):=by grind
theorem r4(j u c n d:Int):j*(u*c+n*d)=u*c*j+n*(j*d):=by grind
theorem r5(u c j n j1:Int):u*c*j+n*(j1*c)=c*(u*j+n*j1):=by grind
theorem r6(g e i1 a i2 b d T s1 c s2:Int)(q:i1*(a*(e*g))+d*T*s1=i2*(b*(e*g))+c*T*s2):g*(e*(i1*a - i2*b))=T*(c*s2 - d*s1):=by grind
theorem r7(g T f:Int):g*(T*f)=T*(f*g):=by grind
theorem r8(T v e q f:Int):T*(v*e+q*f)=v*T*e+q*(T*f):=by grind
theorem r9(v T e q m:Int):v*T*e+q*(e*m)=e*(v*T+q*m):=by grind
theorem r10(e r f:Int):e*r*f=e*(r*f):=by grind
theorem r11(i u a n b:Int):i*(u*a+n*b)=u*(i*a)+n*b*i:=by grind
theorem r12(u r f i2 b n i1:Int):u*(r*f+i2*b)+n*b*i1=u*(r*f)+b*(u*i2+n*i1):=by grind
theorem r13(u r f b M a e g d s1 t:Int):(u*(r*f)+b*M)*(a*(e*g))+d*(e*r)*s1=(M+r*t)*(a*b*(e*g))+r*(e*(d*s1)+f*u*(a*(e*g)) - a*b*(e*g)*t):=by grind
theorem r14(d e r c k:Int):d*(e*r)*(c*k)=r*(c*d*k*e):=by grind
theorem An{a b c d e f k gg u n u' n' v q s1 s2 t s x y i1 j1 i2 j2:Int}(hk:0<k)(G_:0<gg)(he:0<e)
  (r_:u*a+n*b=1) (o7:u'*c+n'*d=1) (Km:c*s2 - d*s1=f*gg) (s9:v*e+q*f=1)
  (hs:s=e*(d*s1)+f*u*(a*(e*gg)) - a*b*(e*gg)*t) (x1:x=i1*(a*(e*gg))+j1*s1) (y1:y=j1*(c*k)) (x2:x=i2*(b*(e*gg))+j2*s2) (y2:y=j2*(d*k)):
  ∃ i j,x=i*(a*b*(e*gg))+j*s/\y=j*(c*d*k*e):=by
 have h1:j1*c=j2*d:=ke hk (by rw[r1 k j1 c,r1 k j2 d,<- y1,<- y2])
 have K':j1=d*(u'*j2+n'*j1):=by
  have p:=r2 j1 u' c n' d
  rw[o7,h1,r3] at p
  lia
 have NV:j2=c*(u'*j2+n'*j1):=by
  have p:=r4 j2 u' c n' d
  rw[o7,<- h1,r5] at p
  lia
 generalize u'*j2+n'*j1=T at K' NV
 have q1:i1*(a*(e*gg))+d*T*s1=i2*(b*(e*gg))+c*T*s2:=by rw[<- K',<- NV,<- x1,<- x2]
 have h2:e*(i1*a - i2*b)=T*f:=ke G_ (by rw[r6 gg e i1 a i2 b d T s1 c s2 q1,r7,Km])
 have eT:T=e*(v*T+q*(i1*a - i2*b)):=by
  have p:=r8 T v e q f
  rw[s9,<- h2,r9] at p
  lia
 generalize hr:v*T+q*(i1*a - i2*b)=r at eT
 have h3:i1*a - i2*b=r*f:=ke he (by rw[h2,eT,r10])
 have h4:i1=u*(r*f)+b*(u*i2+n*i1):=by
  have p:=r11 i1 u a n b
  have q3:i1*a=r*f+i2*b:=by lia
  rw[r_,q3,r12] at p
  lia
 generalize u*i2+n*i1=M at h4
 refine⟨M+r*t,r,?_,?_⟩
 ·rw[hs,x1,K',eT,<- r13,<- h4]
 ·rw[y1,K',eT,r14]
theorem Ao{a b c d e f k gg u n u' n' v q s1 s2 t s:Int}(ha:0<a)(hb:0<b)(hc:0<c)(hd:0<d)(he:0<e)(hk:0<k)(G_:0<gg)
  (r_:u*a+n*b=1) (o7:u'*c+n'*d=1) (Km:c*s2 - d*s1=f*gg) (s9:v*e+q*f=1)
  (hs:s=e*(d*s1)+f*u*(a*(e*gg)) - a*b*(e*gg)*t) (m1:0<=s) (m2:s<a*b*(e*gg)):
  MetR (a*(e*gg)) (c*k) s1 (b*(e*gg)) (d*k) s2 (a*b*(e*gg)) (c*d*k*e) s (k*gg):=by
 have hg:0<e*gg:=Fc he G_
 have hW:0<a*b*(e*gg):=Fc (Fc ha hb) hg
 have Mi:d*s1=c*s2 - f*gg:=by lia
 have ua:u*a=1 - n*b:=by lia
 refine⟨hW,Fc (Fc (Fc hc hd) hk) he,m1,m2,⟨b,?_⟩,⟨a,?_⟩,⟨f*u - t*b,d*e,?_,?_⟩,⟨-(f*n) - t*a,c*e,?_,?_⟩,Fc hk G_,?_,⟨a*e*c,?_⟩,⟨a*e*d,?_⟩,⟨b*e*c,?_⟩,⟨b*e*d,?_⟩,⟨-f,?_⟩,?_,?_⟩
 ·grind
 ·grind
 ·grind
 ·grind
 ·rw[hs,Mi]
  have x2:f*u*(a*(e*gg))=f*(u*a)*(e*gg):=by grind
  rw[x2,ua];grind
 ·grind
 ·grind
 ·grind
 ·grind
 ·grind
 ·grind
 ·have:s1*(d*k) - c*k*s2=-(k*(c*s2 - d*s1)):=by grind
  rw[this,Km];grind
 ·rintro x y ⟨i1,j1,x1,z1⟩ ⟨i2,j2,x2,z2⟩
  exact An hk G_ he r_ o7 Km s9 hs x1 z1 x2 z2
 ·rintro G ⟨y1,z1⟩ ⟨y2,z2⟩ ⟨y3,z3⟩ ⟨y4,z4⟩ ⟨y5,z5⟩
  refine⟨v*(u'*u*y1+n'*u*y2+u'*n*y3+n'*n*y4) - q*y5,?_⟩
  have k1:k*(e*gg)=G*(u'*u*y1+n'*u*y2+u'*n*y3+n'*n*y4):=by
   have p1:k*(e*gg)=(u'*c+n'*d)*(u*a+n*b)*(k*(e*gg)):=by rw[r_,o7];grind
   have p2:(u'*c+n'*d)*(u*a+n*b)*(k*(e*gg))=u'*u*(a*(e*gg)*(c*k))+n'*u*(a*(e*gg)*(d*k))+u'*n*(b*(e*gg)*(c*k))+n'*n*(b*(e*gg)*(d*k)):=by grind
   rw[p1,p2,z1,z2,z3,z4];grind
  have k2:k*(f*gg)=-(G*y5):=by
   rw[<- z5,<- Km];grind
  have k3:k*gg=(v*e+q*f)*(k*gg):=by rw[s9];grind
  have k4:(v*e+q*f)*(k*gg)=v*(k*(e*gg))+q*(k*(f*gg)):=by grind
  rw[k3,k4,k1,k2];grind
theorem kg{w1 h1 s1 w2 h2 s2 g u k u' gg t8:Int}(o_:0<w1)(v_:0<w2)(NW:0<h1)(y9:0<h2)
  (M1:Meas w1 w2 g u) (M2:Meas h1 h2 k u')
  (M3:Meas g (h1*h2 / k / h2*s2 - h1*h2 / k / h1*s1) gg t8):
  MetR w1 h1 s1 w2 h2 s2 (w1*w2 / g) (h1*h2 / k*(g / gg)) ((g / gg*(h1*h2 / k / h1*s1)+g / gg*(h1*h2 / k / h2*s2 - h1*h2 / k / h1*s1) / g*u*w1) % (w1*w2 / g)) (k*gg):=by
 have hg:=M1.pos o_
 have hk:=M2.pos NW
 have G_:=M3.pos hg
 obtain⟨_,⟨a,ea⟩,⟨b,eb⟩,n,en⟩:=M1
 obtain⟨_,⟨c,ec⟩,⟨d,ed⟩,n',Qj⟩:=M2
 have ha:0<a:=dG (ea ▸ o_) hg
 have hb:0<b:=dG (eb ▸ v_) hg
 have hc:0<c:=dG (ec ▸ NW) hk
 have hd:0<d:=dG (ed ▸ y9) hk
 have r_:u*a+n*b=1:=by
  have p:(u*a+n*b)*g=1*g:=by
   have:(u*a+n*b)*g=u*(a*g)+n*(b*g):=by grind
   rw[this,<- ea,<- eb];lia
  exact Ge (by lia) p
 have o7:u'*c+n'*d=1:=by
  have p:(u'*c+n'*d)*k=1*k:=by
   have:(u'*c+n'*d)*k=u'*(c*k)+n'*(d*k):=by grind
   rw[this,<- ec,<- ed];lia
  exact Ge (by lia) p
 have eW:w1*w2 / g=a*b*g:=by
  have:w1*w2=(a*b*g)*g:=by rw[ea,eb];grind
  rw[this];exact Ft _ (by lia)
 have eR:h1*h2 / k=c*d*k:=by
  have:h1*h2=(c*d*k)*k:=by rw[ec,ed];grind
  rw[this];exact Ft _ (by lia)
 have Pj:h1*h2 / k / h1=d:=by
  rw[eR]
  have:c*d*k=d*h1:=by rw[ec];grind
  rw[this];exact Ft _ (by lia)
 have Pk:h1*h2 / k / h2=c:=by
  rw[eR]
  have:c*d*k=c*h2:=by rw[ed];grind
  rw[this];exact Ft _ (by lia)
 rw[Pj,Pk] at M3 ⊢
 obtain⟨_,⟨e,ee⟩,⟨f,ef⟩,q,eq⟩:=M3
 have he:0<e:=dG (ee ▸ hg) G_
 have s9:t8*e+q*f=1:=by
  have p:(t8*e+q*f)*gg=1*gg:=by
   have:(t8*e+q*f)*gg=t8*(e*gg)+q*(f*gg):=by grind
   rw[this,<- ee,<- ef];lia
  exact Ge (by lia) p
 have eC:g / gg=e:=by rw[ee];exact Ft _ (by lia)
 have eS:e*(c*s2 - d*s1) / g=f:=by
  have:e*(c*s2 - d*s1)=f*g:=by rw[ef,ee];grind
  rw[this];exact Ft _ (by lia)
 rw[eC,eS,eW,eR]
 have hW:0<a*b*g:=Fc (Fc ha hb) hg
 have em:=Fy (e*(d*s1)+f*u*w1) (a*b*g)
 have m1:=Fw (e*(d*s1)+f*u*w1) (show a*b*g≠0 by lia)
 have m2:=Fx (e*(d*s1)+f*u*w1) hW
 generalize (e*(d*s1)+f*u*w1) % (a*b*g)=s at em m1 m2 ⊢
 generalize (e*(d*s1)+f*u*w1) / (a*b*g)=t at em
 subst ea eb ec ed
 subst ee
 exact Ao ha hb hc hd he hk G_ r_ o7 ef s9 em m1 m2
theorem kh{x y g u:Int}(hx:0<x)(hy:0<y)(M:Meas x y g u):0<x*y / g/\x*y / g<=x*y/\x*y / g / x*1<=y/\0<=x*y / g / x/\x*y / g / y<=x/\0<=x*y / g / y:=by
 have hg:=M.pos hx
 obtain⟨_,⟨a,ea⟩,⟨b,eb⟩,_⟩:=M
 have ha:0<a:=dG (ea ▸ hx) hg
 have hb:0<b:=dG (eb ▸ hy) hg
 have e1:x*y / g=a*b*g:=by
  have:x*y=(a*b*g)*g:=by rw[ea,eb];grind
  rw[this];exact Ft _ (by lia)
 have e2:a*b*g / x=b:=by
  have:a*b*g=b*x:=by rw[ea];grind
  rw[this];exact Ft _ (by lia)
 have e3:a*b*g / y=a:=by
  have:a*b*g=a*y:=by rw[eb];grind
  rw[this];exact Ft _ (by lia)
 have p1:0<a*b*g:=Fc (Fc ha hb) hg
 have q1:=(cU (w:=b) (h:=g) hb hg).1
 have q2:=(cU (w:=a) (h:=g) ha hg).1
 have q3:x*y=a*b*g*g:=by rw[ea,eb];grind
 have q4:=(cU (w:=a*b*g) (h:=g) p1 hg).1
 rw[e1,e2,e3]
 lia
def cell(ns:List Int)(k:Int):Int:=ns.getD k.toNat 0
theorem so{ns:List Int}{k:Int}(h0:0<=k)(h1:k<(ns.length:Int)):atI (ns.map D.int) k=some (.int (cell ns k)):=by
 obtain⟨j,rfl⟩:∃ j:Nat,k=(j:Int):=⟨k.toNat,by lia⟩
 have hk:j<ns.length:=by lia
 refine bV ?_
 rw[E8,Fj hk]
 simp[cell,FL,Fj hk]
theorem Ap{ns:List Int}{k:Int}(h1:(ns.length:Int)<=k):cell ns k=0:=by
 have hk:ns.length<=k.toNat:=by lia
 simp[cell,FL,FN hk]
theorem EQ(k:Int):∃ m,atI [D.int 12,D.int 720] (k % 2)=some (.int m)/\(m=12\/m=720):=by
 rcases(by lia:k % 2=0\/k % 2=1) with e|e
 ·rw[e];exact⟨12,rfl,.inl rfl⟩
 ·rw[e];exact⟨720,rfl,.inr rfl⟩
theorem bR{a b:Int}(h:0<b):0<=a % b:=Fw a (by lia)
theorem bS{a b:Int}(h:0<b):a % b<b:=Fx a h
def Aq:SpD:=λds R=>∃ (ns:List Int) (k:Int),ds=[.rol (ns.map D.int),.int k]/\0<=k/\R (.int (cell ns k))
def Ar:SpD:=λds R=>∃ i:Int,ds=[.int i]/\R (.bl true)
def As:SpD:=λds R=>∃ w h s x y:Int,ds=[.tup [.int w,.int h,.int s],.int x,.int y]/\0<w/\0<h/\h<1073741824/\0<=s/\s<1073741824/\
 R (.bl (decide (y % h=0/\(x - y / h*s) % w=0)))
def Au:SpD:=λds R=>∃ a b c d u v:Int,ds=[.tup [.int a,.int b],.tup [.int c,.int d],.int u,.int v]/\a.natAbs<1073741824/\b.natAbs<1073741824/\c.natAbs<1073741824/\d.natAbs<1073741824/\
 ¬ a*d=b*c/\R (.bl (decide ((u*d - v*c).fmod (a*d - b*c)=0/\(a*v - b*u).fmod (a*d - b*c)=0)))
def Av:SpD:=λds R=>∃ x y:Int,ds=[.int x,.int y]/\∀ g:Int,0<=g->g∣x->g∣y->(∀ e,e∣x->e∣y->e∣g)->R (.int g)
theorem sq{e x:Int}:e∣(if x<0 then -x else x)↔e∣x:=by
 split
 ·exact Int.dvd_neg
 ·exact Iff.rfl
theorem sr{e a b:Int}(hb:e∣b):e∣a % b↔e∣a:=by
 have e1:=Fy a b
 rw[e1]
 constructor
 ·intro h
  have:=G9 h (HK (c:=a / b) hb)
  simpa using this
 ·intro h
  exact Int.dvd_sub h (HK hb)
def Aw:SpD:=λds R=>∃ w h s x y:Int,ds=[.tup [.int w,.int h,.int s],.int x,.int y]/\0<w/\0<h/\h<1073741824/\0<=s/\s<1073741824/\
 R (.tup [.int ((x - y / h*s) % w),.int (y % h)])
def Ax:SpD:=λds R=>∃ a b c d:Int,ds=[.tup [.int a,.int b],.tup [.int c,.int d]]/\b.natAbs<1073741824/\d.natAbs<1073741824/\
 ∀ p0 p1 q0,Lev a b c d p0 p1 q0->R (.tup [.tup [.int p0,.int p1],.tup [.int q0,.int 0]])
def Ay:SpD:=λds R=>∃ a b c d:Int,ds=[.tup [.int a,.int b],.tup [.int c,.int d]]/\a.natAbs<1073741824/\b.natAbs<1073741824/\c.natAbs<1073741824/\d.natAbs<1073741824/\
 (a*d=b*c->R .non)/\(¬ a*d=b*c->∀ w h s,FamOf a b c d w h s->R (.tup [.int w,.int h,.int s]))
def Az:SpD:=λds R=>∃ w h s:Int,ds=[.tup [.int w,.int h,.int s]]/\0<w/\R (.tup [.int w,.int h,.int (-s % w)])
def AA:SpD:=λds R=>∃ w h s:Int,ds=[.tup [.int w,.int h,.int s]]/\0<w/\0<h/\w<1073741824/\h<1073741824/\0<=s/\s<1073741824/\
 ∀ w' h' s',FamOf 0 w (-h) s w' h' s'->R (.tup [.int w',.int h',.int s'])
def AB:SpD:=λds R=>∃ x y:Int,ds=[.int x,.int y]/\x.natAbs<1073741824/\y.natAbs<1073741824/\∀ g u,Meas x y g u->R (.tup [.int g,.int u])
def AC:SpD:=λds R=>∃ w1 h1 s1 w2 h2 s2:Int,ds=[.tup [.int w1,.int h1,.int s1],.tup [.int w2,.int h2,.int s2]]/\0<w1/\w1<=720/\0<h1/\h1<=720/\0<=s1/\s1<w1/\0<w2/\w2<=720/\0<h2/\h2<=720/\0<=s2/\s2<w2/\
 ∀ w h s A,MetR w1 h1 s1 w2 h2 s2 w h s A->w<=518400->h<=373248000->R (.tup [.int w,.int h,.int s])
def Drawn(xs:List Int):Prop:=∀ x∈xs,0<=x/\x<5040
theorem Drawn.at{xs:List Int}(h:Drawn xs)(k:Int):0<=cell xs k/\cell xs k<5040:=by
 by_cases hk:k.toNat<xs.length
 ·have:cell xs k=xs[k.toNat]:=by simp[cell,FL,Fj hk]
  rw[this];exact h _ (FD hk)
 ·have:cell xs k=0:=by simp[cell,FL,FN (GC hk)]
  lia
theorem cy{xs:List Int}{k:Int}(h0:0<=k)(h:k.toNat<xs.length):atI (xs.map D.int) k=some (.int (cell xs k)):=so h0 (by lia)
theorem ss{xs:List Int}{v:Int}:xs.map D.int++[D.int v]=(xs++[v]).map D.int:=by simp
theorem su{xs:List Int}{v:Int}(h:Drawn xs)(h1:0<=v)(h2:v<5040):Drawn (xs++[v]):=by
 intro x hx
 rcases Fk.mp hx with q|q
 ·exact h x q
 ·rw[ES.mp q];exact⟨h1,h2⟩
def AD:SpD:=λds R=>∃ (ns:List Int) (k:Int) (n:Nat),ds=[.rol (ns.map D.int),.int k,.int n]/\0<=k/\n<=100/\∀ xs:List Int,xs.length=n->Drawn xs->R (.lst (xs.map D.int))
def AE:SpD:=λds R=>∃ xs:List Int,ds=[.lst (xs.map D.int)]/\8<=xs.length/\Drawn xs/\
 ∀ a b c d:Int,(-12<=a/\a<=12)->(-12<=b/\b<=12)->(-12<=c/\c<=12)->(-12<=d/\d<=12)->¬ a*d=b*c->R (.lst [.tup [.int a,.int b],.tup [.int c,.int d]])
abbrev cs(x:Str):List Nat:=x.cps.toList
theorem bq(x:Str):(cs x).length=x.length:=by simp[Str.length]
theorem sy:cs ""=[]:=rfl
theorem bF(x y:Str):cs (x++y)=cs x++cs y:=by
 show((x++y:Str)).cps.toList=_
 rw[show(x++y:Str).cps=x.cps++y.cps from rfl,Array.toList_append]
theorem aB(x y:Str):(x++y).length=x.length+y.length:=by rw[<- bq,bF,E2,bq,bq]
def aG(c:Nat):Prop:=c=46\/(49<=c/\c<=54)
theorem ki:∀ (L:List Str),cT (L.map D.str)=some L
 |[]=>rfl
 |x::L=>by simp[cT,ki L]
def eJ(x:Str):Prop:=0<x.length/\x.length<=7/\∀ c∈cs x,aG c
theorem AF{x:Str}(h:eJ x)(v:Int):∃ c,(x.length<=1000000/\atI (cs x) (v % (x.length:Int))=some c)/\aG c:=by
 have h1:=bR (a:=v) (show 0<(x.length:Int) by have:=h.1;lia)
 have h2:=bS (a:=v) (show 0<(x.length:Int) by have:=h.1;lia)
 obtain⟨j,ej⟩:∃ j:Nat,v % (x.length:Int)=(j:Int):=⟨(v % (x.length:Int)).toNat,by lia⟩
 have hj:j<(cs x).length:=by rw[bq];lia
 refine⟨(cs x)[j],⟨by have:=h.2.1;lia,?_⟩,h.2.2 _ (FD hj)⟩
 rw[ej]
 exact bV (Fj hj)
theorem AG:eJ "1.23456":=⟨by decide+kernel,by decide+kernel,by unfold aG;decide+kernel⟩
theorem AH:eJ "12":=⟨by decide+kernel,by decide+kernel,by unfold aG;decide+kernel⟩
theorem AI:eJ "1.":=⟨by decide+kernel,by decide+kernel,by unfold aG;decide+kernel⟩
theorem AJ:eJ "...2":=⟨by decide+kernel,by decide+kernel,by unfold aG;decide+kernel⟩
theorem AK(k:Int):∃ x,atI [D.str "1.23456",D.str "12",D.str "1.",D.str "...2"] (k % 4)=some (.str x)/\eJ x:=by
 rcases(by lia:k % 4=0\/k % 4=1\/k % 4=2\/k % 4=3) with e|e|e|e<;>rw[e]
 ·exact⟨_,rfl,AG⟩
 ·exact⟨_,rfl,AH⟩
 ·exact⟨_,rfl,AI⟩
 ·exact⟨_,rfl,AJ⟩
theorem AL(k:Int):∃ m,atI [D.int 1,D.int 70] (k % 2)=some (.int m)/\(m=1\/m=70):=by
 rcases(by lia:k % 2=0\/k % 2=1) with e|e<;>rw[e]
 ·exact⟨1,rfl,.inl rfl⟩
 ·exact⟨70,rfl,.inr rfl⟩
structure Rows(L:List Str):Prop where
 many:1<=L.length/\L.length<=8
 wide:∃ w,(1<=w/\w<=8)/\∀ l∈L,l.length=w/\∀ c∈cs l,aG c
theorem Rows.of{L:List Str}{w t:Nat}(h1:1<=t)(h2:t<=8)(hl:L.length=t)(w1:1<=w)(w2:w<=8)(h:∀ l∈L,l.length=w/\∀ c∈cs l,aG c):Rows L:=⟨by lia,w,⟨w1,w2⟩,h⟩
theorem AM{x:Str}{c:Nat}{i:Nat}(h1:x.length=i)(h2:∀ c∈cs x,aG c)(hc:aG c):(x++⟨#[c]⟩:Str).length=i+1/\∀ c'∈cs (x++⟨#[c]⟩),aG c':=by
 refine⟨by rw[aB,h1];rfl,λc' q=>?_⟩
 rw[bF] at q
 rcases Fk.mp q with q|q
 ·exact h2 _ q
 ·have:c'=c:=by simpa[cs] using q
  rw[this];exact hc
theorem AN{L:List Str}{x:Str}:L.map D.str++[D.str x]=(L++[x]).map D.str:=by simp
def cJ(L:List Str)(a b c d:Int):Str:=("["++Txt.join "/" L)++((((((((";":Str)++(toString a:String))++",")++(toString b:String))++";")++(toString c:String))++",")++(toString d:String))++"]"
theorem bu{a:Int}(h: -12<=a/\a<=12):((toString a:String):Str).length<=3:=by
 have key:∀ k:Fin 25,((toString (((k.val:Nat):Int) - 12):String):Str).length<=3:=by decide+kernel
 have:=key ⟨(a+12).toNat,by lia⟩
 have e:(((a+12).toNat:Nat):Int) - 12=a:=by lia
 rw[e] at this
 exact this
def B12(a:Int):Prop:=-12<=a/\a<=12
theorem B12.lt{a:Int}(h:B12 a):a.natAbs<1073741824:=by unfold B12 at h;lia
theorem sA{L:List Str}{w:Nat}(h:∀ l∈L,l.length=w):(L.map (·.length)).sum=L.length*w:=by
 induction L with
 |nil=>simp
 |cons x L ih=>
  rw[E9,List.sum_cons,ih (λl hl=>h l (EV _ hl)),h x EY,EW,Nat.succ_mul,Ha]
theorem sB{L:List Str}(h:Rows L):(L.map (·.length)).sum+L.length*("/":Str).length<=72:=by
 obtain⟨h1,w,hw,h2⟩:=h
 rw[sA (λl hl=>(h2 l hl).1)]
 have e:("/":Str).length=1:=rfl
 rw[e]
 have:=G6 h1.2 hw.2
 lia
def AO:SpD:=λds R=>∃ xs:List Int,ds=[.lst (xs.map D.int)]/\40<=xs.length/\Drawn xs/\∀ L:List Str,Rows L->R (.lst (L.map D.str))
def AQ:SpD:=λds R=>∃ (L:List Str) (a b c d:Int),ds=[.lst (L.map D.str),.tup [.int a,.int b],.tup [.int c,.int d]]/\Rows L/\B12 a/\B12 b/\B12 c/\B12 d/\R (.str (cJ L a b c d))
structure Leaf where
 rows:List Str
 a:Int
 b:Int
 c:Int
 d:Int
 w0:Int
 w1:Int
 w2:Int
 w3:Int
 w4:Int
 w5:Int
 hues:List Int
def Leaf.D(l:Leaf):My.D:= .tup [.lst (l.rows.map D.str),.tup [.int l.a,.int l.b],.tup [.int l.c,.int l.d],.tup [.int l.w0,.int l.w1,.int l.w2,.int l.w3,.int l.w4,.int l.w5],.lst (l.hues.map D.int)]
structure Leaf.Ok(l:Leaf):Prop where
 rows:Rows l.rows
 a:B12 l.a
 b:B12 l.b
 c:B12 l.c
 d:B12 l.d
 ne:¬ l.a*l.d=l.b*l.c
 w0:l.w0.natAbs<=1
 w1:l.w1.natAbs<=1
 w2:l.w2.natAbs<=1
 w3:l.w3.natAbs<=1
 w4:l.w4.natAbs<=1000
 w5:l.w5.natAbs<=1000
 many:l.hues.length=7
 hue:∀ h∈l.hues,0<=h/\h<=6
def onB(a b c d u v:Int):Bool:=decide ((u*d - v*c).fmod (a*d - b*c)=0/\(a*v - b*u).fmod (a*d - b*c)=0)
def scanRow(f:Int->Bool):Nat->List Nat->Option Nat
 |_,[]=>none
 |i,c::r=>if c≠46/\f i=true then some c else scanRow f (i+1) r
def bG(f:Int->Int->Bool):Nat->List Str->Option Nat
 |_,[]=>none
 |j,l::r=>match scanRow (λi=>f i j) 0 (cs l) with|some c=>some c|none=>bG f (j+1) r
def Leaf.hit(l:Leaf)(x y:Int):Option Nat:=bG (λi j=>onB l.a l.b l.c l.d (l.w0*x+l.w1*y+l.w4 - i) (l.w2*x+l.w3*y+l.w5 - j)) 0 l.rows
def Leaf.shows(l:Leaf)(x y:Int):Int:=match l.hit x y with|some c=>cell l.hues ((c:Int) - 48)|none=>0
theorem one_sign{c:Nat}:(⟨#[c]⟩:Str)="."↔c=46:=by
 constructor
 ·intro h
  have:(#[c]:Array Nat)=(".":Str).cps:=congrArg Str.cps h
  have e:(#[c]:Array Nat).toList=(".":Str).cps.toList:=by rw[this]
  have e2:(".":Str).cps.toList=[46]:=rfl
  rw[e2] at e
  simpa using e
 ·rintro rfl;rfl
theorem digit_of{c:Nat}(h:49<=c/\c<=54):PySem.intText? (⟨#[c]⟩:Str)=some ((c:Int) - 48):=by
 rcases(by lia:c=49\/c=50\/c=51\/c=52\/c=53\/c=54) with e|e|e|e|e|e<;>subst e<;>decide+kernel
theorem at_str{L:List Str}{j:Nat}{x:Str}(h:L[j]?=some x):atI (L.map D.str) (j:Int)=some (.str x):=bV (by rw[E8,h];rfl)
theorem cm{n:Int}{k:Nat}{x:D}(h:((ET n.toNat).map λk=>D.int ((k:Nat):Int))[k]?=some x):k<n.toNat/\x= .int (k:Int):=by
 have hk:k<n.toNat:=by simpa using(Fb.mp h).1
 refine⟨hk,?_⟩
 simp[hk] at h
 exact h.symm
theorem cz{n:Int}:((ET n.toNat).map λk=>D.int ((k:Nat):Int)).length=n.toNat:=by simp
def aT:List Leaf->Int->Int->Int
 |[],_,_=>0
 |l::r,x,y=>if l.shows x y≠0 then l.shows x y else aT r x y
theorem AR{hs:List Int}(h:∀ h∈hs,0<=h/\h<=6)(k:Int):0<=cell hs k/\cell hs k<=6:=by
 by_cases hk:k.toNat<hs.length
 ·have:cell hs k=hs[k.toNat]:=by simp[cell,FL,Fj hk]
  rw[this];exact h _ (FD hk)
 ·have:cell hs k=0:=by simp[cell,FL,FN (GC hk)]
  lia
theorem Leaf.shows_le{l:Leaf}(h:l.Ok)(x y:Int):0<=l.shows x y/\l.shows x y<=6:=by
 unfold Leaf.shows
 split
 ·exact AR h.hue _
 ·lia
theorem sC:∀ {ls:List Leaf} (x y:Int),(∀ l∈ls,l.Ok)->0<=aT ls x y/\aT ls x y<=6
 |[],_,_,_=>by simp[aT]
 |l::r,x,y,h=>by
  unfold aT
  split
  ·exact Leaf.shows_le (h l EY) x y
  ·exact sC x y λl' q=>h l' (EV _ q)
def bp(L:List Str)(a b c d:Int):Leaf:=⟨L,a,b,c,d,1,0,0,1,0,0,[0,1,2,3,4,5,6]⟩
def AS:SpD:=λds R=>∃ (ns:List Int) (k:Int),ds=[.rol (ns.map D.int),.int k]/\0<=k/\
 ∀ (L:List Str) (a b c d:Int),Rows L->B12 a->B12 b->B12 c->B12 d->¬ a*d=b*c->R (.lst [.str (cJ L a b c d),.int 0,.lst [(bp L a b c d).D]])
def AT:SpD:=λds R=>∃ (l:Leaf) (x y:Int),ds=[l.D,.int x,.int y]/\l.Ok/\R (.int (l.shows x y))
def AU:SpD:=λds R=>∃ (ls:List Leaf) (x y:Int),ds=[.lst (ls.map Leaf.D),.int x,.int y]/\(∀ l∈ls,l.Ok)/\R (.int (aT ls x y))
def AV:SpD:=λds R=>∃ v:Int,ds=[.int v]/\∀ c:Int,-1000000000000<=c->c<=1000000000000->R (.int c)
theorem AW(k:Int):∃ c,atI [D.int (-(10 ^ Gq 12)),D.int (1 - 10 ^ Gq 12),D.int (10 ^ Gq 12 - 1),D.int (10 ^ Gq 12)] (k % 4)=some (.int c)/\-1000000000000<=c/\c<=1000000000000:=by
 rcases(by lia:k % 4=0\/k % 4=1\/k % 4=2\/k % 4=3) with e|e|e|e<;>rw[e]
 ·exact⟨_,rfl,by decide,by decide⟩
 ·exact⟨_,rfl,by decide,by decide⟩
 ·exact⟨_,rfl,by decide,by decide⟩
 ·exact⟨_,rfl,by decide,by decide⟩
inductive Pat where
 |mot (L:List Str) (a b c d:Int)
 |over (p q:Pat)
 |sh (a b:Int) (p:Pat)
 |mir (p:Pat)
 |tur (p:Pat)
 |hue (f g:Int) (p:Pat)
def Pat.text:Pat->Str
 | .mot L a b c d=>cJ L a b c d
 | .over p q=>(((("(":Str)++p.text)++"|")++q.text)++")"
 | .sh a b p=>((((("s":Str)++(toString a:String))++",")++(toString b:String))++":")++p.text
 | .mir p=>("m":Str)++p.text
 | .tur p=>("t":Str)++p.text
 | .hue f g p=>((("h":Str)++(toString f:String))++(toString g:String))++p.text
def Pat.depth:Pat->Nat
 | .mot ..=>0
 | .over p q=>1+max p.depth q.depth
 | .sh _ _ p=>p.depth+1
 | .mir p=>p.depth+1
 | .tur p=>p.depth+1
 | .hue _ _ p=>p.depth+1
def Leaf.by(l:Leaf)(b0 b1 b2 b3 b4 b5:Int):Leaf:=
 {l with w0:=l.w0*b0+l.w1*b2,w1:=l.w0*b1+l.w1*b3,w2:=l.w2*b0+l.w3*b2,w3:=l.w2*b1+l.w3*b3,w4:=l.w4+l.w0*b4+l.w1*b5,w5:=l.w5+l.w2*b4+l.w3*b5}
def bB(f g h:Int):Int:=if h=f then g else h
def Leaf.dye(l:Leaf)(f g:Int):Leaf:={l with hues:=l.hues.map (bB f g)}
def Pat.leaves:Pat->List Leaf
 | .mot L a b c d=>[bp L a b c d]
 | .over p q=>p.leaves++q.leaves
 | .sh a b p=>p.leaves.map (λl=>l.by 1 0 0 1 (-a) (-b))
 | .mir p=>p.leaves.map (λl=>l.by (-1) 0 0 1 0 0)
 | .tur p=>p.leaves.map (λl=>l.by 0 1 (-1) 0 0 0)
 | .hue f g p=>p.leaves.map (λl=>(l.by 1 0 0 1 0 0).dye f g)
def Pat.show:Pat->Int->Int->Int
 | .mot L a b c d,x,y=>(bp L a b c d).shows x y
 | .over p q,x,y=>if p.show x y≠0 then p.show x y else q.show x y
 | .sh a b p,x,y=>p.show (x - a) (y - b)
 | .mir p,x,y=>p.show (-x) y
 | .tur p,x,y=>p.show y (-x)
 | .hue f g p,x,y=>bB f g (p.show x y)
def Pat.Wf:Pat->Prop
 | .mot L a b c d=>Rows L/\B12 a/\B12 b/\B12 c/\B12 d/\¬ a*d=b*c
 | .over p q=>p.Wf/\q.Wf
 | .sh a b p=>B12 a/\B12 b/\p.Wf
 | .mir p=>p.Wf
 | .tur p=>p.Wf
 | .hue f g p=>(1<=f/\f<=6)/\(1<=g/\g<=6)/\p.Wf
theorem Leaf.by_shows(l:Leaf)(b0 b1 b2 b3 b4 b5 x y:Int):(l.by b0 b1 b2 b3 b4 b5).shows x y=l.shows (b0*x+b1*y+b4) (b2*x+b3*y+b5):=by
 have e1:(l.w0*b0+l.w1*b2)*x+(l.w0*b1+l.w1*b3)*y+(l.w4+l.w0*b4+l.w1*b5)=l.w0*(b0*x+b1*y+b4)+l.w1*(b2*x+b3*y+b5)+l.w4:=by grind
 have e2:(l.w2*b0+l.w3*b2)*x+(l.w2*b1+l.w3*b3)*y+(l.w5+l.w2*b4+l.w3*b5)=l.w2*(b0*x+b1*y+b4)+l.w3*(b2*x+b3*y+b5)+l.w5:=by grind
 simp only[Leaf.shows,Leaf.hit,Leaf.by,e1,e2]
theorem fL(b0 b1 b2 b3 b4 b5 x y:Int):∀ ls:List Leaf,aT (ls.map (λl=>l.by b0 b1 b2 b3 b4 b5)) x y=aT ls (b0*x+b1*y+b4) (b2*x+b3*y+b5)
 |[]=>rfl
 |l::r=>by
  rw[E9,aT,aT,Leaf.by_shows,fL b0 b1 b2 b3 b4 b5 x y r]
theorem scanRow_sign{f:Int->Bool}:∀ {cs:List Nat} {i c:Nat},(∀ c∈cs,aG c)->scanRow f i cs=some c->49<=c/\c<=54
 |[],_,_,_,h=>by cases h
 |a::r,i,c,hs,h=>by
  rw[scanRow] at h
  split at h
  ·rename_i q
   cases h
   have:=hs a EY
   unfold aG at this
   have:=q.1
   lia
  ·exact scanRow_sign (λc q=>hs c (EV _ q)) h
theorem kj{f:Int->Int->Bool}:∀ {L:List Str} {j c:Nat},(∀ l∈L,∀ c∈cs l,aG c)->bG f j L=some c->49<=c/\c<=54
 |[],_,_,_,h=>by cases h
 |a::r,j,c,hs,h=>by
  rw[bG] at h
  split at h
  ·rename_i q
   cases h
   exact scanRow_sign (hs a EY) q
  ·exact kj (λl q=>hs l (EV _ q)) h
theorem AX{hs:List Int}{k:Int}{f g:Int}(h:k.toNat<hs.length):cell (hs.map (bB f g)) k=bB f g (cell hs k):=by
 simp[cell,FL,E8,Fj h]
theorem Leaf.dye_shows{l:Leaf}(ok:l.Ok){f g:Int}(hf:1<=f)(x y:Int):(l.dye f g).shows x y=bB f g (l.shows x y):=by
 have e:(l.dye f g).hit x y=l.hit x y:=rfl
 unfold Leaf.shows
 rw[e]
 cases h:l.hit x y with
 |none=>simp[bB];lia
 |some c=>
  have hc:49<=c/\c<=54:=kj (λl' q=>let ⟨_,_,_,h⟩:=ok.rows;(h l' q).2) h
  exact AX (by rw[ok.many];lia)
theorem sE{f g h:Int}(hf:1<=f)(hg:1<=g):bB f g h=0↔h=0:=by
 unfold bB
 split<;>lia
theorem sF{f g:Int}(hf:1<=f)(hg:1<=g)(x y:Int):∀ ls:List Leaf,(∀ l∈ls,l.Ok)->aT (ls.map (λl=>l.dye f g)) x y=bB f g (aT ls x y)
 |[],_=>by simp[aT,bB];lia
 |l::r,h=>by
  rw[E9,aT,aT,Leaf.dye_shows (h l EY) hf,sF hf hg x y r λl q=>h l (EV _ q)]
  by_cases z:l.shows x y=0
  ·rw[if_neg (λq=>q ((sE hf hg).mpr z)),if_neg (λq=>q z)]
  ·rw[if_pos (λq=>z ((sE hf hg).mp q)),if_pos z]
theorem sG(x y:Int):∀ (a b:List Leaf),aT (a++b) x y=if aT a x y≠0 then aT a x y else aT b x y
 |[],b=>by simp[aT]
 |l::r,b=>by
  rw[FE,aT,aT]
  by_cases z:l.shows x y≠0
  ·rw[if_pos z,if_pos z,if_pos z]
  ·rw[if_neg z,if_neg z,sG x y r b]
structure Leaf.Near(l:Leaf)(n:Nat):Prop where
 u0:(l.w0.natAbs=1/\l.w1=0/\l.w2=0/\l.w3.natAbs=1)\/(l.w0=0/\l.w1.natAbs=1/\l.w2.natAbs=1/\l.w3=0)
 w4:l.w4.natAbs<=24*n
 w5:l.w5.natAbs<=24*n
theorem Leaf.Near.mono{l:Leaf}{n m:Nat}(h:l.Near n)(k:n<=m):l.Near m:=⟨h.u0,by have:=h.w4;lia,by have:=h.w5;lia⟩
theorem Leaf.Near.unit{l:Leaf}{n:Nat}(h:l.Near n):(l.w0=1\/l.w0=-1\/l.w0=0)/\(l.w1=1\/l.w1=-1\/l.w1=0)/\(l.w2=1\/l.w2=-1\/l.w2=0)/\(l.w3=1\/l.w3=-1\/l.w3=0):=by
 have:=h.u0
 lia
theorem sH{e w v a b:Int}{n:Nat}(h:e.natAbs<=24*n)(hw:w=1\/w=-1\/w=0)(hv:v=1\/v=-1\/v=0)(ha:B12 a)(hb:B12 b):(e+w* -a+v* -b).natAbs<=24*(n+1):=by
 have m:∀ {w a:Int},(w=1\/w=-1\/w=0)->B12 a->(w* -a).natAbs<=12:=λhw ha=>by
  unfold B12 at ha
  rcases hw with rfl|rfl|rfl<;>lia
 have:=m hw ha
 have:=m hv hb
 generalize w* -a=x at*
 generalize v* -b=y at*
 clear m hw hv ha hb
 lia
theorem AY{l:Leaf}{n:Nat}{a b:Int}(h:l.Near n)(ha:B12 a)(hb:B12 b):(l.by 1 0 0 1 (-a) (-b)).Near (n+1):=by
 obtain⟨h0,h1,h2,h3⟩:=h.unit
 exact⟨by simpa[Leaf.by] using h.u0,sH h.w4 h0 h1 ha hb,sH h.w5 h2 h3 ha hb⟩
theorem AZ{l:Leaf}{n:Nat}(h:l.Near n):(l.by (-1) 0 0 1 0 0).Near (n+1):=by
 have p:=h.w4
 have q:=h.w5
 exact⟨by simpa[Leaf.by] using h.u0,by simp[Leaf.by];lia,by simp[Leaf.by];lia⟩
theorem A1{l:Leaf}{n:Nat}(h:l.Near n):(l.by 0 1 (-1) 0 0 0).Near (n+1):=by
 have p:=h.w4
 have q:=h.w5
 refine⟨?_,by simp[Leaf.by];lia,by simp[Leaf.by];lia⟩
 rcases h.u0 with⟨a,b,c,d⟩|⟨a,b,c,d⟩
 ·exact .inr (by simp[Leaf.by,a,b,c,d])
 ·exact .inl (by simp[Leaf.by,a,b,c,d])
theorem sI{l:Leaf}{n:Nat}{f g:Int}(h:l.Near n):((l.by 1 0 0 1 0 0).dye f g).Near (n+1):=by
 have p:=h.w4
 have q:=h.w5
 exact⟨by simpa[Leaf.by,Leaf.dye] using h.u0,by simp[Leaf.by,Leaf.dye];lia,by simp[Leaf.by,Leaf.dye];lia⟩
structure Leaf.Good(l:Leaf):Prop where
 rows:Rows l.rows
 a:B12 l.a
 b:B12 l.b
 c:B12 l.c
 d:B12 l.d
 ne:¬ l.a*l.d=l.b*l.c
 many:l.hues.length=7
 hue:∀ h∈l.hues,0<=h/\h<=6
theorem Leaf.ok_of{l:Leaf}{n:Nat}(g:l.Good)(h:l.Near n)(hn:n<=40):l.Ok:=by
 have:=h.u0
 have:=h.w4
 have:=h.w5
 exact⟨g.rows,g.a,g.b,g.c,g.d,g.ne,by lia,by lia,by lia,by lia,by lia,by lia,g.many,g.hue⟩
theorem Pat.leaf_good:∀ {p:Pat},p.Wf->∀ l∈p.leaves,l.Good/\l.Near p.depth
 | .mot L a b c d,h,l,q=>by
  have:l=bp L a b c d:=by simpa[Pat.leaves] using q
  subst this
  obtain⟨h1,h2,h3,h4,h5,h6⟩:=h
  exact⟨⟨h1,h2,h3,h4,h5,h6,rfl,by intro h q;simp[bp] at q;lia⟩,⟨by simp[bp],by simp[bp],by simp[bp]⟩⟩
 | .over p r,h,l,q=>by
  rcases Fk.mp q with q|q
  ·obtain⟨g,n⟩:=Pat.leaf_good h.1 l q
   exact⟨g,n.mono (by simp only[Pat.depth];lia)⟩
  ·obtain⟨g,n⟩:=Pat.leaf_good h.2 l q
   exact⟨g,n.mono (by simp only[Pat.depth];lia)⟩
 | .sh a b p,h,l,q=>by
  obtain⟨l',q',rfl⟩:=Fq.mp q
  obtain⟨g,n⟩:=Pat.leaf_good h.2.2 l' q'
  exact⟨⟨g.rows,g.a,g.b,g.c,g.d,g.ne,g.many,g.hue⟩,AY n h.1 h.2.1⟩
 | .mir p,h,l,q=>by
  obtain⟨l',q',rfl⟩:=Fq.mp q
  obtain⟨g,n⟩:=Pat.leaf_good (p:=p) h l' q'
  exact⟨⟨g.rows,g.a,g.b,g.c,g.d,g.ne,g.many,g.hue⟩,AZ n⟩
 | .tur p,h,l,q=>by
  obtain⟨l',q',rfl⟩:=Fq.mp q
  obtain⟨g,n⟩:=Pat.leaf_good (p:=p) h l' q'
  exact⟨⟨g.rows,g.a,g.b,g.c,g.d,g.ne,g.many,g.hue⟩,A1 n⟩
 | .hue f k p,h,l,q=>by
  obtain⟨l',q',rfl⟩:=Fq.mp q
  obtain⟨g,n⟩:=Pat.leaf_good (p:=p) h.2.2 l' q'
  refine⟨⟨g.rows,g.a,g.b,g.c,g.d,g.ne,?_,λv hv=>?_⟩,sI n⟩
  ·show(l'.hues.map _).length=7
   rw[E1];exact g.many
  ·obtain⟨u,hu,rfl⟩:=Fq.mp hv
   have:=g.hue u hu
   have:=h.2.1
   unfold bB
   split<;>lia
theorem Pat.leaf_ok{p:Pat}(h:p.Wf)(hd:p.depth<=40):∀ l∈p.leaves,l.Ok:=λl q=>Leaf.ok_of (Pat.leaf_good h l q).1 (Pat.leaf_good h l q).2 hd
theorem Pat.show_leaves:∀ {p:Pat},p.Wf->p.depth<=40->∀ x y,aT p.leaves x y=p.show x y
 | .mot L a b c d,_,_,x,y=>by
  simp only[Pat.leaves,Pat.show,aT]
  split
  ·rfl
  ·lia
 | .over p q,h,hd,x,y=>by
  simp only[Pat.depth] at hd
  rw[Pat.leaves,sG,Pat.show_leaves h.1 (by lia),Pat.show_leaves h.2 (by lia),Pat.show]
 | .sh a b p,h,hd,x,y=>by
  simp only[Pat.depth] at hd
  rw[Pat.leaves,fL,Pat.show_leaves h.2.2 (by lia),Pat.show]
  congr 1<;>lia
 | .mir p,h,hd,x,y=>by
  simp only[Pat.depth] at hd
  rw[Pat.leaves,fL,Pat.show_leaves (p:=p) h (by lia),Pat.show]
  congr 1<;>lia
 | .tur p,h,hd,x,y=>by
  simp only[Pat.depth] at hd
  rw[Pat.leaves,fL,Pat.show_leaves (p:=p) h (by lia),Pat.show]
  congr 1<;>lia
 | .hue f g p,h,hd,x,y=>by
  simp only[Pat.depth] at hd
  have e:p.leaves.map (λl=>(l.by 1 0 0 1 0 0).dye f g)=(p.leaves.map (λl=>l.by 1 0 0 1 0 0)).map (λl=>l.dye f g):=by rw[Gr];rfl
  rw[Pat.leaves,e,sF h.1.1 h.2.1.1,fL,Pat.show_leaves h.2.2 (by lia),Pat.show]
  ·congr 2<;>lia
  ·intro l q
   obtain⟨l',q',rfl⟩:=Fq.mp q
   obtain⟨g',n⟩:=Pat.leaf_good h.2.2 l' q'
   have n':=sI (f:=f) (g:=g) n
   have:(l'.by 1 0 0 1 0 0).Near (p.depth+1):=⟨n'.u0,n'.w4,n'.w5⟩
   exact Leaf.ok_of ⟨g'.rows,g'.a,g'.b,g'.c,g'.d,g'.ne,g'.many,g'.hue⟩ this (by lia)
def Pat.D(p:Pat):My.D:= .lst [.str p.text,.int p.depth,.lst (p.leaves.map Leaf.D)]
def Leaf.T(dy:Bool)(d8 new b0 b1 b2 b3 b4 b5:Int)(l:Leaf):Leaf:=if dy then(l.by b0 b1 b2 b3 b4 b5).dye d8 new else l.by b0 b1 b2 b3 b4 b5
theorem cV{a:Int}(h:1<=a/\a<=6):((toString a:String):Str).length<=3:=bu (by lia)
def Wraps(p:Pat)(H:Prop)(R:My.D->Prop):Prop:=(5<=p.depth->R p.D)/\(p.depth<5->R (Pat.mir p).D/\R (Pat.tur p).D/\(∀ a b,B12 a->B12 b->R (Pat.sh a b p).D)/\(H->∀ f g:Int,(1<=f/\f<=6)->(1<=g/\g<=6)->R (Pat.hue f g p).D))
theorem A2{p:Pat}{R:My.D->Prop}{j:Int}(h:Wraps p (j=3) R)(hd:p.depth<5){k A B d8 new:Int}(hA:B12 A)(hB:B12 B)(ho:1<=d8/\d8<=6)(hn:1<=new/\new<=6)(hj:0<=j/\j<4):
  ∃ (hs:Str) (b0 b1 b2 b3 b4 b5:Int),atI [D.str "m",D.str "t",D.str ((((("s":Str)++(toString A:String))++",")++(toString B:String))++":"),D.str ((("h":Str)++(toString d8:String))++(toString new:String))] j=some (.str hs)/\
   atI ([D.tup [.int (-1),.int 0,.int 0,.int 1,.int 0,.int 0],D.tup [.int 0,.int 1,.int (-1),.int 0,.int 0,.int 0]]++[D.tup [.int 1,.int 0,.int 0,.int 1,.int (-A),.int (-B)],D.tup [.int 1,.int 0,.int 0,.int 1,.int 0,.int 0]]) j=some (.tup [.int b0,.int b1,.int b2,.int b3,.int b4,.int b5])/\
   (b0.natAbs<=1/\b1.natAbs<=1/\b2.natAbs<=1/\b3.natAbs<=1/\b4.natAbs<=12/\b5.natAbs<=12)/\hs.length<=20/\
   R (.lst [.str (hs++p.text),.int (p.depth+1),.lst ((p.leaves.map (Leaf.T (decide (j=3)) d8 new b0 b1 b2 b3 b4 b5)).map Leaf.D)]):=by
 obtain⟨h1,h2,h3,h4⟩:=h.2 hd
 have l1:("s":Str).length=1:=rfl
 have l2:(",":Str).length=1:=rfl
 have l3:(":":Str).length=1:=rfl
 have l4:("h":Str).length=1:=rfl
 have lA:=bu hA
 have lB:=bu hB
 have lo:=cV ho
 have ln:=cV hn
 have eD:∀ n:Nat,D.int ((n+1:Nat):Int)=D.int ((n:Int)+1):=λn=>by congr 1
 unfold B12 at hA hB
 rcases(by lia:j=0\/j=1\/j=2\/j=3) with rfl|rfl|rfl|rfl
 ·exact⟨_,_,_,_,_,_,_,rfl,rfl,by lia,by decide,h1⟩
 ·exact⟨_,_,_,_,_,_,_,rfl,rfl,by lia,by decide,h2⟩
 ·refine⟨_,_,_,_,_,_,_,rfl,rfl,by lia,?_,h3 A B hA hB⟩
  repeat rw[aB]
  lia
 ·refine⟨_,_,_,_,_,_,_,rfl,rfl,by lia,?_,h4 rfl d8 new ho hn⟩
  repeat rw[aB]
  lia
theorem A3(h d8 new:Int):atI [D.int h,D.int new] (if decide (h=d8)=true then(1:Int) else 0)=some (.int (bB d8 new h)):=by
 unfold bB
 by_cases e:h=d8
 ·rw[if_pos e,if_pos (by simpa using e)];rfl
 ·rw[if_neg e,if_neg (by simpa using e)];rfl
theorem km{α:Type}{xs:List α}{k:Nat}{x:α}(h:xs[k]?=some x):xs.take (k+1)=xs.take k++[x]:=by
 have hk:k<xs.length:=(Fb.mp h).1
 rw[HC,h];rfl
theorem Pat.leaves_len:∀ (p:Pat),p.leaves.length<=2 ^ p.depth
 | .mot ..=>ER _
 | .over p q=>by
  have h1:=p.leaves_len
  have h2:=q.leaves_len
  have m1:2 ^ p.depth<=2 ^ (max p.depth q.depth):=FI (by decide) (Hb _ _)
  have m2:2 ^ q.depth<=2 ^ (max p.depth q.depth):=FI (by decide) (Hc _ _)
  rw[Pat.leaves,E2,Pat.depth,Hd]
  lia
 | .sh a b p=>by rw[Pat.leaves,E1,Pat.depth,Fu];have:=p.leaves_len;lia
 | .mir p=>by rw[Pat.leaves,E1,Pat.depth,Fu];have:=p.leaves_len;lia
 | .tur p=>by rw[Pat.leaves,E1,Pat.depth,Fu];have:=p.leaves_len;lia
 | .hue f g p=>by rw[Pat.leaves,E1,Pat.depth,Fu];have:=p.leaves_len;lia
theorem Pat.leaves_32{p:Pat}(h:p.depth<=5):p.leaves.length<=32:=E4 p.leaves_len (FI (by decide) h)
def A5:SpD:=λds R=>∃ (p:Pat) (draw:Int),ds=[p.D,.int draw]/\p.Wf/\p.depth<=5/\p.text.length<=100000/\Wraps p (draw % 4=3) R
theorem sJ{a b c d u v:Int}(hn:¬ a*d=b*c)(h:(u*d - v*c).fmod (a*d - b*c)=0/\(a*v - b*u).fmod (a*d - b*c)=0):∃ i j,u=i*a+j*c/\v=i*b+j*d:=by
 have hz:a*d - b*c≠0:=by omega
 obtain⟨i,ei⟩:(a*d - b*c)∣(u*d - v*c):=⟨_,(HL h.1).symm⟩
 obtain⟨j,ej⟩:(a*d - b*c)∣(a*v - b*u):=⟨_,(HL h.2).symm⟩
 refine⟨i,j,?_,?_⟩
 ·have:(a*d - b*c)*u=(a*d - b*c)*(i*a+j*c):=by
   have q1:(a*d - b*c)*u=a*(u*d - v*c)+c*(a*v - b*u):=by grind
   rw[q1,ei,ej];grind
  exact G8 hz this
 ·have:(a*d - b*c)*v=(a*d - b*c)*(i*b+j*d):=by
   have q1:(a*d - b*c)*v=b*(u*d - v*c)+d*(a*v - b*u):=by grind
   rw[q1,ei,ej];grind
  exact G8 hz this
theorem Uni.trans{a b c d p0 p1 q0 q1 x0 x1 y0 y1:Int}(h:Uni a b c d p0 p1 q0 q1)(k:Uni p0 p1 q0 q1 x0 x1 y0 y1):Uni a b c d x0 x1 y0 y1:=by
 obtain⟨m,n,k1,l,hd,rfl,rfl,rfl,rfl⟩:=h
 obtain⟨m',n',k',l',f9,rfl,rfl,rfl,rfl⟩:=k
 have dt:(m'*m+n'*k1)*(k'*n+l'*l) - (m'*n+n'*l)*(k'*m+l'*k1)=(m'*l' - n'*k')*(m*l - n*k1):=by grind
 refine⟨m'*m+n'*k1,m'*n+n'*l,k'*m+l'*k1,k'*n+l'*l,?_,by grind,by grind,by grind,by grind⟩
 rw[dt]
 rcases hd with e|e<;>rcases f9 with e'|e'<;>rw[e,e']<;>decide
theorem eK:∀ (n:Nat) (a b c d:Int),d.natAbs<=n->∃ p0 p1 q0,Lev a b c d p0 p1 q0
 |n,a,b,c,d,hn=>by
  by_cases hd:d=0
  ·subst hd
   by_cases hb:0<=b
   ·exact⟨a,b,c,hb,Uni.refl a b c 0⟩
   ·exact⟨-a,-b,c,by lia,(Uni.refl a b c 0).neg⟩
  ·match n,hn with
   |0,hn=>exact absurd (by lia:d=0) hd
   |n+1,hn=>
    have lt:=(fdm b d hd).1
    obtain⟨p0,p1,q0,h0,hu⟩:=eK n c d (a - b.fdiv d*c) (b - b.fdiv d*d) (by lia)
    exact⟨p0,p1,q0,h0,((Uni.refl a b c d).step (b.fdiv d)).trans hu⟩
theorem A6{a b c d g:Int}(hn:¬ a*d=b*c)(g0:0<=g)(g1:g∣b)(g2:g∣d)(g3:∀ e,e∣b->e∣d->e∣g):
  ∃ w s,FamOf a b c d w g s:=by
 obtain⟨p0,p1,q0,hL⟩:=eK d.natAbs a b c d (ER _)
 have hF:=fK hn hL
 have hp:=hF.2.1
 obtain⟨m,n,k,l,_,e1,e2,e3,e4⟩:=hL.2
 obtain⟨m',n',k',l',_,f1,f2,f3,f4⟩:=hL.2.inv
 have d1:p1∣g:=g3 p1 ⟨m',by rw[f2];grind⟩ ⟨k',by rw[f4];grind⟩
 have d2:g∣p1:=by
  rw[e2]
  exact G9 (GH g1) (GH g2)
 have:p1=g:=HM (by lia) g0 d1 d2
 subst this
 exact⟨_,_,hF⟩
theorem FamOf.uniq_lean{a b c d w h s x i j:Int}(f:FamOf a b c d w h s)(e1:x=i*a+j*c)(e2:h=i*b+j*d)(h0:0<=x)(h1:x<=s):x=s:=by
 obtain⟨hw,hh,hs,v3,hu⟩:=f
 obtain⟨m,n,k,l,_,f1,f2,f3,f4⟩:=hu.inv
 -- (x,h)=(i m+j k) (w,0)+(i n+j l) (s,h)
 have ex:x=(i*m+j*k)*w+(i*n+j*l)*s:=by rw[e1,f1,f3];grind
 have eh:h=(i*n+j*l)*h:=by
  have:i*b+j*d=(i*n+j*l)*h:=by rw[f2,f4];grind
  rw[<- this];exact e2
 have one:i*n+j*l=1:=by
  have:(i*n+j*l)*h=1*h:=by lia
  exact Ge (by lia) this
 rw[one] at ex
 generalize i*m+j*k=t at ex
 have:t*w=x - s:=by lia
 rcases(by lia:t<=-1\/t=0\/1<=t) with z|z|z
 ·have:=Fg z (show 0<=w by lia)
  lia
 ·subst z;lia
 ·have:=Fg z (show 0<=w by lia)
  lia
theorem notT{c:Prop}[Decidable c](h:(!decide c)=true):¬ c:=by
 intro q
 rw[decide_eq_true q] at h
 cases h
theorem notF{c:Prop}[Decidable c](h:¬ (!decide c)=true):c:=by
 rcases Classical.em c with q|q
 ·exact q
 ·rw[decide_eq_false q] at h
  exact absurd rfl h
def Leaf.o0(l:Leaf):Int:=l.w0*l.a+l.w2*l.b
def Leaf.o1(l:Leaf):Int:=l.w1*l.a+l.w3*l.b
def Leaf.t0(l:Leaf):Int:=l.w0*l.c+l.w2*l.d
def Leaf.t1(l:Leaf):Int:=l.w1*l.c+l.w3*l.d
theorem cX{w a:Int}(h:w=1\/w=-1\/w=0)(ha:B12 a):(w*a).natAbs<=12:=by
 unfold B12 at ha
 rcases h with e|e|e<;>rw[e]<;>lia
theorem mul12{a b:Int}(ha:B12 a)(hb:B12 b):(a*b).natAbs<=144:=by
 unfold B12 at ha hb
 rw[Gd]
 exact E4 (G6 (show a.natAbs<=12 by lia) (show b.natAbs<=12 by lia)) (by decide)
theorem Leaf.sizes{l:Leaf}{n:Nat}(g:l.Good)(h:l.Near n):l.o0.natAbs<=24/\l.o1.natAbs<=24/\l.t0.natAbs<=24/\l.t1.natAbs<=24/\¬ l.o0*l.t1=l.o1*l.t0/\(l.o0*l.t1 - l.o1*l.t0).natAbs<=288:=by
 obtain⟨h0,h1,h2,h3⟩:=h.unit
 have a0:=cX h0 g.a
 have a1:=cX h1 g.a
 have b2:=cX h2 g.b
 have b3:=cX h3 g.b
 have c0:=cX h0 g.c
 have c1:=cX h1 g.c
 have d2:=cX h2 g.d
 have d3:=cX h3 g.d
 have dt:l.o0*l.t1 - l.o1*l.t0=(l.w0*l.w3 - l.w1*l.w2)*(l.a*l.d - l.b*l.c):=by unfold Leaf.o0 Leaf.o1 Leaf.t0 Leaf.t1;grind
 have dw:(l.w0*l.w3 - l.w1*l.w2).natAbs=1:=by
  rcases h.u0 with⟨p,q,r,t⟩|⟨p,q,r,t⟩
  ·rw[q,GI,GJ,Gd,p,t]
  ·rw[p,GI,Int.zero_sub,Int.natAbs_neg,Gd,q,r]
 have da:(l.o0*l.t1 - l.o1*l.t0).natAbs=(l.a*l.d - l.b*l.c).natAbs:=by rw[dt,Gd,dw,Nat.one_mul]
 refine⟨ab24 a0 b2,ab24 a1 b3,ab24 c0 d2,ab24 c1 d3,λz=>g.ne ?_,?_⟩
 ·rw[z,GK] at da
  exact Int.sub_eq_zero.mp (Int.natAbs_eq_zero.mp da.symm)
 ·rw[da]
  have m1:=mul12 g.a g.d
  have m2:=mul12 g.b g.c
  generalize l.a*l.d=x at*
  generalize l.b*l.c=y at*
  clear da dw dt d3 d2 c1 c0 b3 b2 a1 a0 h3 h2 h1 h0 h g
  lia
def A7:SpD:=λds R=>∃ (l:Leaf) (n:Nat),ds=[l.D]/\l.Good/\l.Near n/\∀ w h s:Int,FamOf l.o0 l.o1 l.t0 l.t1 w h s->w*h<=288->R (.tup [.int w,.int h,.int s])
theorem A8{w h s x y:Int}(h1:y % h=0/\(x - y / h*s) % w=0):∃ i j,x=i*w+j*s/\y=j*h:=by
 refine⟨(x - y / h*s) / w,y / h,?_,?_⟩
 ·have:=Gf (x - y / h*s) w
  rw[h1.2] at this
  rw[Fe w] at this
  lia
 ·have:=Gf y h
  rw[h1.1,Fe h] at this
  lia
theorem eL(x y:Int):∃ g u,Meas x y g u:=by
 obtain⟨p0,p1,q0,hL⟩:=eK y.natAbs 1 x 0 y (ER _)
 exact⟨p1,p0,sj ⟨hL.1,hL.2⟩⟩
theorem Meas.gcd{x y g u G:Int}(h:Meas x y g u)(g0:0<=G)(g1:G∣x)(g2:G∣y)(g3:∀ e,e∣x->e∣y->e∣G):G=g:=by
 obtain⟨h0,⟨i,ei⟩,⟨j,ej⟩,n,en⟩:=h
 refine HM g0 h0 ?_ (g3 g ⟨i,by rw[ei,Fe]⟩ ⟨j,by rw[ej,Fe]⟩)
 rw[en]
 exact G9 (GH g1) (GH g2)
structure Fm(w h s:Int):Prop where
 w0:0<w
 w1:w<=720
 h0:0<h
 h1:h<=720
 s0:0<=s
 sw:s<w
theorem A9{w1 h1 s1 w2 h2 s2:Int}(f:Fm w1 h1 s1)(k:Fm w2 h2 s2):∃ g u w h s A,Meas w1 w2 g u/\w=w1*w2 / g/\MetR w1 h1 s1 w2 h2 s2 w h s A:=by
 obtain⟨g,u,M1⟩:=eL w1 w2
 obtain⟨k',u',M2⟩:=eL h1 h2
 obtain⟨gg,t8,M3⟩:=eL g (h1*h2 / k' / h2*s2 - h1*h2 / k' / h1*s1)
 exact⟨g,u,_,_,_,_,M1,rfl,kg f.w0 k.w0 f.h0 k.h0 M1 M2 M3⟩
theorem MetR.high{w1 h1 s1 w2 h2 s2 w h s A x j:Int}(M:MetR w1 h1 s1 w2 h2 s2 w h s A)(hh:0<h1)(hj:1<=j)(e1:∃ i,x=i*w1+j*s1)(e2:∃ i k,x=i*w2+k*s2/\j*h1=k*h2):h<=j*h1/\(j*h1=h->0<=x->x<w->x=s):=by
 obtain⟨i,e1⟩:=e1
 obtain⟨i',k,e3,e4⟩:=e2
 obtain⟨a,b,e5,e6⟩:=M.all x (j*h1) ⟨i,j,e1,rfl⟩ ⟨i',k,e3,e4⟩
 have hp:0<j*h1:=Fc (by lia) hh
 have hb:1<=b:=by
  rcases(by lia:b<=0\/1<=b) with z|z
  ·have:=FM z (show 0<=h by have:=M.h0;lia)
   lia
  ·exact z
 refine⟨?_,λe x0 x1=>?_⟩
 ·have:=Fg hb (show 0<=h by have:=M.h0;lia)
  lia
 ·have ob:b=1:=by
   have:b*h=1*h:=by lia
   exact Ge (by have:=M.h0;lia) this
  rw[ob] at e5
  have s0:=M.s0
  have sw:=M.sw
  have:a*w=x - s:=by lia
  rcases(by lia:a<=-1\/a=0\/1<=a) with z|z|z
  ·have:=Fg z (show 0<=w by lia)
   lia
  ·subst z;lia
  ·have:=Fg z (show 0<=w by lia)
   lia
def Ba:SpD:=λds R=>∃ w1 h1 s1 w2 h2 s2:Int,ds=[.tup [.int w1,.int h1,.int s1],.tup [.int w2,.int h2,.int s2]]/\Fm w1 h1 s1/\Fm w2 h2 s2/\
 ∀ w h s A,MetR w1 h1 s1 w2 h2 s2 w h s A->(w*h<=720->R (.tup [.int w,.int h,.int s]))/\(720<w*h->R .non)
theorem Bb{x w1 s S i:Int}(hw:0<w1)(hx:x<w1)(x0:0<=x)(hS:0<=S)(e:S=i*w1+s)(e2:∃ i',x=i'*w1+s):∃ k,S=x+k*w1/\0<=k:=by
 obtain⟨i',e2⟩:=e2
 refine⟨i - i',by grind,?_⟩
 rcases(by lia:i - i'<=-1\/0<=i - i') with z|z
 ·have:=Fg z (show 0<=w1 by lia)
  have:(i - i')*w1=S - x:=by grind
  lia
 ·exact z
def InF(w h s x y:Int):Prop:=∃ i j,x=i*w+j*s/\y=j*h
def Leaf.Lat(l:Leaf)(x y:Int):Prop:=∃ i j,x=i*l.o0+j*l.t0/\y=i*l.o1+j*l.t1
theorem FamOf.lat{a b c d w h s:Int}(f:FamOf a b c d w h s)(x y:Int):InF w h s x y↔∃ i j,x=i*a+j*c/\y=i*b+j*d:=by
 obtain⟨_,_,_,_,hu⟩:=f
 obtain⟨m,n,k,l,_,e1,e2,e3,e4⟩:=id hu
 obtain⟨m',n',k',l',_,f1,f2,f3,f4⟩:=hu.inv
 constructor
 ·rintro⟨i,j,rfl,rfl⟩
  refine⟨i*m+j*k,i*n+j*l,by rw[e1,e3];grind,?_⟩
  have z:i*0+j*h=(i*m+j*k)*b+(i*n+j*l)*d:=by rw[e2,e4];grind
  lia
 ·rintro⟨i,j,rfl,rfl⟩
  refine⟨i*m'+j*k',i*n'+j*l',by rw[f1,f3];grind,by rw[f2,f4];grind⟩
theorem MetR.lat{w1 h1 s1 w2 h2 s2 w h s A:Int}(M:MetR w1 h1 s1 w2 h2 s2 w h s A)(x y:Int):InF w h s x y↔InF w1 h1 s1 x y/\InF w2 h2 s2 x y:=by
 constructor
 ·rintro⟨i,j,rfl,rfl⟩
  obtain⟨a1,e1⟩:=M.in1
  obtain⟨a2,e2⟩:=M.in2
  obtain⟨b1,c1,e3,e4⟩:=M.up1
  obtain⟨b2,c2,e5,e6⟩:=M.up2
  refine⟨⟨i*a1+j*b1,j*c1,?_,?_⟩,⟨i*a2+j*b2,j*c2,?_,?_⟩⟩
  ·rw[e1,e3];grind
  ·rw[e4];grind
  ·rw[e2,e5];grind
  ·rw[e6];grind
 ·rintro⟨h1,h2⟩
  exact M.all x y h1 h2
theorem InF.le{w h s w' h' s':Int}(hw:0<w)(hh:0<h)(Mj:0<w')(Ml:0<h')(sub:∀ x y,InF w' h' s' x y->InF w h s x y):w*h<=w'*h'/\w<=w'/\h<=h':=by
 obtain⟨i,j,e1,e2⟩:=sub w' 0 ⟨1,0,by lia,by lia⟩
 have j0:j=0:=by
  rcases Gs.mp e2.symm with z|z
  ·exact z
  ·lia
 subst j0
 have i1:1<=i:=by
  rcases(by lia:i<=0\/1<=i) with z|z
  ·have:=FM z (show 0<=w by lia)
   lia
  ·exact z
 obtain⟨i',j',e3,e4⟩:=sub s' h' ⟨0,1,by lia,by lia⟩
 have j1:1<=j':=by
  rcases(by lia:j'<=0\/1<=j') with z|z
  ·have:=FM z (show 0<=h by lia)
   lia
  ·exact z
 have a1:=Fg i1 (show 0<=w by lia)
 have a2:=Fg j1 (show 0<=h by lia)
 have b1:w<=w':=by lia
 have b2:h<=h':=by lia
 exact⟨Int.mul_le_mul b1 b2 (by lia) (by lia),b1,b2⟩
theorem InF.uniq{w h s w' h' s':Int}(hw:0<w)(hh:0<h)(hs:0<=s)(v3:s<w)(Mj:0<w')(Ml:0<h')(Js:0<=s')(Pl:s'<w')(e:∀ x y,InF w h s x y↔InF w' h' s' x y):w=w'/\h=h'/\s=s':=by
 obtain⟨_,a1,a2⟩:=InF.le hw hh Mj Ml (λx y q=>(e x y).mpr q)
 obtain⟨_,b1,b2⟩:=InF.le Mj Ml hw hh (λx y q=>(e x y).mp q)
 have ew:w=w':=by lia
 have eh:h=h':=by lia
 subst ew eh
 refine⟨rfl,rfl,?_⟩
 obtain⟨i,j,e1,e2⟩:=(e s h).mp ⟨0,1,by lia,by lia⟩
 have j1:j=1:=by
  have:j*h=1*h:=by lia
  exact Ge (by lia) this
 subst j1
 have:i*w=s - s':=by lia
 rcases(by lia:i<=-1\/i=0\/1<=i) with z|z|z
 ·have:=Fg z (show 0<=w by lia)
  lia
 ·subst z;lia
 ·have:=Fg z (show 0<=w by lia)
  lia
structure Fam0(w h s:Int):Prop where
 w0:0<w
 h0:0<h
 s0:0<=s
 sw:s<w
theorem sK{w1 h1 s1 w2 h2 s2:Int}(f:Fam0 w1 h1 s1)(k:Fam0 w2 h2 s2):∃ w h s,Fam0 w h s/\∀ x y,InF w h s x y↔InF w1 h1 s1 x y/\InF w2 h2 s2 x y:=by
 obtain⟨g,u,M1⟩:=eL w1 w2
 obtain⟨k',u',M2⟩:=eL h1 h2
 obtain⟨gg,t8,M3⟩:=eL g (h1*h2 / k' / h2*s2 - h1*h2 / k' / h1*s1)
 have M:=kg f.w0 k.w0 f.h0 k.h0 M1 M2 M3
 exact⟨_,_,_,⟨M.w0,M.h0,M.s0,M.sw⟩,M.lat⟩
theorem Leaf.fam_ex{l:Leaf}{n:Nat}(g:l.Good)(h:l.Near n):∃ w k s,Fam0 w k s/\∀ x y,InF w k s x y↔l.Lat x y:=by
 obtain⟨_,_,_,_,ne,_⟩:=Leaf.sizes g h
 obtain⟨p0,p1,q0,hL⟩:=eK l.t1.natAbs l.o0 l.o1 l.t0 l.t1 (ER _)
 have f:=fK ne hL
 exact⟨_,_,_,⟨f.1,f.2.1,f.2.2.1,f.2.2.2.1⟩,f.lat⟩
def bH(ls:List Leaf)(x y:Int):Prop:=∀ l∈ls,l.Lat x y
theorem sL{n:Nat}:∀ (ls:List Leaf) (w h s:Int),Fam0 w h s->(∀ l∈ls,l.Good/\l.Near n)->∃ w' h' s',Fam0 w' h' s'/\∀ x y,InF w' h' s' x y↔InF w h s x y/\bH ls x y
 |[],w,h,s,f,_=>⟨w,h,s,f,λx y=>⟨λq=>⟨q,λl z=>by cases z⟩,λq=>q.1⟩⟩
 |l::r,w,h,s,f,g=>by
  obtain⟨w1,h1,s1,f1,e1⟩:=Leaf.fam_ex (g l EY).1 (g l EY).2
  obtain⟨w2,h2,s2,f2,e2⟩:=sK f f1
  obtain⟨w3,h3,s3,f3,e3⟩:=sL r w2 h2 s2 f2 λl' q=>g l' (EV _ q)
  refine⟨w3,h3,s3,f3,λx y=>?_⟩
  rw[e3,e2,e1]
  constructor
  ·rintro⟨⟨a,b⟩,c⟩
   exact⟨a,λl' q=>(EU.mp q).elim (λz=>z ▸ b) (c l')⟩
  ·rintro⟨a,b⟩
   exact⟨⟨a,b l EY⟩,λl' q=>b l' (EV _ q)⟩
theorem cut1(d:D)(ds:List D):cutD (d::ds) (some 1) none=ds:=by
 unfold cutD
 have e1:HT.sIx (d::ds).length 0 (some 1)=1:=by simp[HT.sIx]
 have e2:HT.sIx (d::ds).length (d::ds).length none=(d::ds).length:=by simp[HT.sIx]
 rw[e1,e2,List.drop_one,List.tail_cons,EW,HN,GL]
def ko:SpD:=λds R=>∃ (ls:List Leaf) (n:Nat),ds=[.lst (ls.map Leaf.D)]/\ls≠[]/\(∀ l∈ls,l.Good/\l.Near n)/\
 ∀ w h s:Int,Fam0 w h s->(∀ x y,InF w h s x y↔bH ls x y)->(w*h<=720->R (.tup [.int w,.int h,.int s]))/\(720<w*h->R .non)
def Pat.Lat:Pat->Int->Int->Prop
 | .mot _ a b c d,x,y=>∃ i j,x=i*a+j*c/\y=i*b+j*d
 | .over p q,x,y=>p.Lat x y/\q.Lat x y
 | .sh _ _ p,x,y=>p.Lat x y
 | .mir p,x,y=>p.Lat (-x) y
 | .tur p,x,y=>p.Lat y (-x)
 | .hue _ _ p,x,y=>p.Lat x y
theorem Leaf.by_lat(l:Leaf)(b0 b1 b2 b3 b4 b5 x y:Int):(l.by b0 b1 b2 b3 b4 b5).Lat x y↔∃ u v,l.Lat u v/\x=b0*u+b2*v/\y=b1*u+b3*v:=by
 have e0:(l.by b0 b1 b2 b3 b4 b5).o0=b0*l.o0+b2*l.o1:=by simp only[Leaf.o0,Leaf.o1,Leaf.by];grind
 have e1:(l.by b0 b1 b2 b3 b4 b5).o1=b1*l.o0+b3*l.o1:=by simp only[Leaf.o0,Leaf.o1,Leaf.by];grind
 have e2:(l.by b0 b1 b2 b3 b4 b5).t0=b0*l.t0+b2*l.t1:=by simp only[Leaf.t0,Leaf.t1,Leaf.by];grind
 have e3:(l.by b0 b1 b2 b3 b4 b5).t1=b1*l.t0+b3*l.t1:=by simp only[Leaf.t0,Leaf.t1,Leaf.by];grind
 unfold Leaf.Lat
 rw[e0,e1,e2,e3]
 generalize l.o0=o0
 generalize l.o1=o1
 generalize l.t0=t0
 generalize l.t1=t1
 constructor
 ·rintro⟨i,j,rfl,rfl⟩
  exact⟨_,_,⟨i,j,rfl,rfl⟩,by grind,by grind⟩
 ·rintro⟨_,_,⟨i,j,rfl,rfl⟩,rfl,rfl⟩
  exact⟨i,j,by grind,by grind⟩
theorem Leaf.dye_lat(l:Leaf)(f g x y:Int):(l.dye f g).Lat x y↔l.Lat x y:=Iff.rfl
theorem Bc(a b:List Leaf)(x y:Int):bH (a++b) x y↔bH a x y/\bH b x y:=by
 constructor
 ·intro h
  exact⟨λl q=>h l (FJ _ q),λl q=>h l (E7 _ q)⟩
 ·rintro⟨h1,h2⟩ l q
  rcases Fk.mp q with q|q
  ·exact h1 l q
  ·exact h2 l q
theorem latAll_map{f:Leaf->Leaf}{x y u v:Int}(hf:∀ l:Leaf,(f l).Lat x y↔l.Lat u v)(ls:List Leaf):bH (ls.map f) x y↔bH ls u v:=by
 constructor
 ·intro h l q
  exact(hf l).mp (h _ (Fq.mpr ⟨l,q,rfl⟩))
 ·intro h l q
  obtain⟨l',q',rfl⟩:=Fq.mp q
  exact(hf l').mpr (h l' q')
theorem sM(l:Leaf)(e f x y:Int):(l.by 1 0 0 1 e f).Lat x y↔l.Lat x y:=by
 rw[Leaf.by_lat]
 constructor
 ·rintro⟨u,v,h,e1,e2⟩
  have e1:x=u:=by lia
  have e2:y=v:=by lia
  rw[e1,e2];exact h
 ·intro h
  exact⟨x,y,h,by lia,by lia⟩
theorem Pat.lat_leaves:∀ (p:Pat) (x y:Int),bH p.leaves x y↔p.Lat x y
 | .mot L a b c d,x,y=>by
  have e0:(bp L a b c d).o0=a:=by simp[Leaf.o0,bp]
  have e1:(bp L a b c d).o1=b:=by simp[Leaf.o1,bp]
  have e2:(bp L a b c d).t0=c:=by simp[Leaf.t0,bp]
  have e3:(bp L a b c d).t1=d:=by simp[Leaf.t1,bp]
  have e:(bp L a b c d).Lat x y↔(Pat.mot L a b c d).Lat x y:=by
   unfold Leaf.Lat
   rw[e0,e1,e2,e3]
   exact Iff.rfl
  rw[<- e]
  constructor
  ·intro h;exact h _ EY
  ·intro h l q
   rw[ES.mp q];exact h
 | .over p q,x,y=>by rw[Pat.leaves,Bc,Pat.lat_leaves p,Pat.lat_leaves q,Pat.Lat]
 | .sh a b p,x,y=>by rw[Pat.leaves,latAll_map (λl=>sM l _ _ x y),Pat.lat_leaves p,Pat.Lat]
 | .mir p,x,y=>by
  have e:∀ l:Leaf,(l.by (-1) 0 0 1 0 0).Lat x y↔l.Lat (-x) y:=λl=>by
   rw[Leaf.by_lat]
   constructor
   ·rintro⟨u,v,h,e1,e2⟩
    have e1: -x=u:=by lia
    have e2:y=v:=by lia
    rw[e1,e2];exact h
   ·intro h
    exact⟨-x,y,h,by lia,by lia⟩
  rw[Pat.leaves,latAll_map e,Pat.lat_leaves p,Pat.Lat]
 | .tur p,x,y=>by
  have e:∀ l:Leaf,(l.by 0 1 (-1) 0 0 0).Lat x y↔l.Lat y (-x):=λl=>by
   rw[Leaf.by_lat]
   constructor
   ·rintro⟨u,v,h,e1,e2⟩
    have e1: -x=v:=by lia
    have e2:y=u:=by lia
    rw[e1,e2];exact h
   ·intro h
    exact⟨y,-x,h,by lia,by lia⟩
  rw[Pat.leaves,latAll_map e,Pat.lat_leaves p,Pat.Lat]
 | .hue f g p,x,y=>by
  rw[Pat.leaves,latAll_map (λl=>(Leaf.dye_lat _ f g x y).trans (sM l _ _ x y)),Pat.lat_leaves p,Pat.Lat]
structure Pat.Fam(p:Pat)(w h s:Int):Prop where
 f:Fam0 w h s
 lat:∀ x y,InF w h s x y↔p.Lat x y
theorem Pat.Fam.uniq{p:Pat}{w h s w' h' s':Int}(a:p.Fam w h s)(b:p.Fam w' h' s'):w=w'/\h=h'/\s=s':=
 InF.uniq a.f.w0 a.f.h0 a.f.s0 a.f.sw b.f.w0 b.f.h0 b.f.s0 b.f.sw λx y=>(a.lat x y).trans (b.lat x y).symm
theorem Pat.Fam.mot{L:List Str}{a b c d w h s:Int}(k:FamOf a b c d w h s):(Pat.mot L a b c d).Fam w h s:=⟨⟨k.1,k.2.1,k.2.2.1,k.2.2.2.1⟩,k.lat⟩
theorem Pat.Fam.sh{p:Pat}{w h s:Int}(a b:Int)(k:p.Fam w h s):(Pat.sh a b p).Fam w h s:=⟨k.f,k.lat⟩
theorem Pat.Fam.hue{p:Pat}{w h s:Int}(a b:Int)(k:p.Fam w h s):(Pat.hue a b p).Fam w h s:=⟨k.f,k.lat⟩
theorem Pat.Fam.mir{p:Pat}{w h s:Int}(k:p.Fam w h s):(Pat.mir p).Fam w h (-s % w):=by
 refine⟨⟨k.f.w0,k.f.h0,bR k.f.w0,bS k.f.w0⟩,λx y=>?_⟩
 show _↔p.Lat (-x) y
 rw[<- k.lat]
 have e:=Fy (-s) w
 generalize -s % w=r at e
 generalize -s / w=t at e
 constructor
 ·rintro⟨i,j,rfl,rfl⟩
  exact⟨j*t - i,j,by rw[e];grind,rfl⟩
 ·rintro⟨i,j,ex,rfl⟩
  exact⟨j*t - i,j,by rw[e];grind,rfl⟩
theorem Pat.Fam.tur{p:Pat}{w h s w' h' s':Int}(k:p.Fam w h s)(f:FamOf 0 w (-h) s w' h' s'):(Pat.tur p).Fam w' h' s':=by
 refine⟨⟨f.1,f.2.1,f.2.2.1,f.2.2.2.1⟩,λx y=>?_⟩
 show _↔p.Lat y (-x)
 rw[<- k.lat,f.lat]
 constructor
 ·rintro⟨i,j,rfl,rfl⟩
  exact⟨i,j,by grind,by grind⟩
 ·rintro⟨i,j,ex,ey⟩
  exact⟨i,j,by grind,by grind⟩
theorem Pat.Fam.over{p q:Pat}{w1 h1 s1 w2 h2 s2 w h s A:Int}(k1:p.Fam w1 h1 s1)(k2:q.Fam w2 h2 s2)(M:MetR w1 h1 s1 w2 h2 s2 w h s A):(Pat.over p q).Fam w h s:=by
 refine⟨⟨M.w0,M.h0,M.s0,M.sw⟩,λx y=>?_⟩
 rw[M.lat,k1.lat,k2.lat]
 exact Iff.rfl
theorem gU{w h s:Int}(hw:0<w)(hh:0<h):∃ w' h' s',FamOf 0 w (-h) s w' h' s'/\w'*h'=w*h:=by
 have hp:0<w*h:=Fc hw hh
 have hn:¬ 0*s=w* -h:=by rw[FO];lia
 obtain⟨p0,p1,q0,hL⟩:=eK s.natAbs 0 w (-h) s (ER _)
 have f:=fK hn hL
 refine⟨_,_,_,f,?_⟩
 have L5:=Fc f.1 f.2.1
 have c:=f.cells
 rw[FO] at c
 lia
theorem sN{L:List Str}{a b c d:Int}(hn:¬ a*d=b*c):∃ w h s,FamOf a b c d w h s/\(Pat.mot L a b c d).Fam w h s:=by
 obtain⟨p0,p1,q0,hL⟩:=eK d.natAbs a b c d (ER _)
 have f:=fK hn hL
 exact⟨_,_,_,f,.mot f⟩
theorem Pat.fam_ex:∀ {p:Pat},p.Wf->∃ w h s,p.Fam w h s
 | .mot L a b c d,h=>by
  obtain⟨w,k,s,_,f⟩:=sN (L:=L) h.2.2.2.2.2
  exact⟨w,k,s,f⟩
 | .over p q,h=>by
  obtain⟨w1,h1,s1,f1⟩:=Pat.fam_ex h.1
  obtain⟨w2,h2,s2,f2⟩:=Pat.fam_ex h.2
  obtain⟨w,k,s,f,e⟩:=sK f1.f f2.f
  refine⟨w,k,s,f,λx y=>?_⟩
  rw[e,f1.lat,f2.lat]
  exact Iff.rfl
 | .sh a b p,h=>by
  obtain⟨w,k,s,f⟩:=Pat.fam_ex h.2.2
  exact⟨w,k,s,f.sh a b⟩
 | .mir p,h=>by
  obtain⟨w,k,s,f⟩:=Pat.fam_ex (p:=p) h
  exact⟨w,k,_,f.mir⟩
 | .tur p,h=>by
  obtain⟨w,k,s,f⟩:=Pat.fam_ex (p:=p) h
  obtain⟨w',k',s',f',_⟩:=gU (s:=s) f.f.w0 f.f.h0
  exact⟨w',k',s',f.tur f'⟩
 | .hue a b p,h=>by
  obtain⟨w,k,s,f⟩:=Pat.fam_ex h.2.2
  exact⟨w,k,s,f.hue a b⟩
def Pat.Fits(p:Pat):Prop:=∃ w h s,p.Fam w h s/\w*h<=720
theorem Pat.fits_mot{L:List Str}{a b c d:Int}(ha:B12 a)(hb:B12 b)(hc:B12 c)(hd:B12 d)(hn:¬ a*d=b*c):(Pat.mot L a b c d).Fits:=by
 obtain⟨w,h,s,k,f⟩:=sN (L:=L) hn
 refine⟨w,h,s,f,?_⟩
 have kc:=k.cells
 unfold B12 at*
 have m1:=bx (a:=a) (d:=d) (A:=12) (B:=12) (by lia) (by lia)
 have m2:=bx (a:=b) (d:=c) (A:=12) (B:=12) (by lia) (by lia)
 lia
theorem Pat.Fits.sh{p:Pat}(a b:Int)(k:p.Fits):(Pat.sh a b p).Fits:=by
 obtain⟨w,h,s,f,q⟩:=k
 exact⟨w,h,s,f.sh a b,q⟩
theorem Pat.Fits.hue{p:Pat}(a b:Int)(k:p.Fits):(Pat.hue a b p).Fits:=by
 obtain⟨w,h,s,f,q⟩:=k
 exact⟨w,h,s,f.hue a b,q⟩
theorem Pat.Fits.mir{p:Pat}(k:p.Fits):(Pat.mir p).Fits:=by
 obtain⟨w,h,s,f,q⟩:=k
 exact⟨w,h,_,f.mir,q⟩
theorem Pat.Fits.tur{p:Pat}(k:p.Fits):(Pat.tur p).Fits:=by
 obtain⟨w,h,s,f,q⟩:=k
 obtain⟨w',k',s',f',e⟩:=gU (s:=s) f.f.w0 f.f.h0
 exact⟨w',k',s',f.tur f',by lia⟩
theorem sO{L:List Str}{a b c d:Int}(hL:Rows L)(ha:B12 a)(hb:B12 b)(hc:B12 c)(hd:B12 d):(cJ L a b c d).length<=100:=by
 have la:=bu ha
 have lb:=bu hb
 have lc:=bu hc
 have ld:=bu hd
 have l1:(";":Str).length=1:=rfl
 have l2:(",":Str).length=1:=rfl
 have l3:("[":Str).length=1:=rfl
 have l4:("]":Str).length=1:=rfl
 have ls:=sB hL
 have lj:=StrLaws.join_length_le "/" L
 have lg:(Txt.join "/" L).length<=72:=by
  have e:Txt.join "/" L=Str.join "/" L:=StrLaws.glued_eq_join _ _
  rw[e];exact E4 lj ls
 unfold cJ
 repeat rw[aB]
 lia
theorem Pat.text_len:∀ {p:Pat},p.Wf->p.text.length+10<=110*2 ^ p.depth
 | .mot L a b c d,h=>by
  have:=sO h.1 h.2.1 h.2.2.1 h.2.2.2.1 h.2.2.2.2.1
  show(cJ L a b c d).length+10<=110*2 ^ 0
  lia
 | .over p q,h=>by
  have h1:=Pat.text_len h.1
  have h2:=Pat.text_len h.2
  have m1:2 ^ p.depth<=2 ^ (max p.depth q.depth):=FI (by decide) (Hb _ _)
  have m2:2 ^ q.depth<=2 ^ (max p.depth q.depth):=FI (by decide) (Hc _ _)
  have l1:("(":Str).length=1:=rfl
  have l2:("|":Str).length=1:=rfl
  have l3:(")":Str).length=1:=rfl
  rw[Pat.text,Pat.depth,Hd]
  repeat rw[aB]
  lia
 | .sh a b p,h=>by
  have h1:=Pat.text_len h.2.2
  have la:=bu h.1
  have lb:=bu h.2.1
  have l1:("s":Str).length=1:=rfl
  have l2:(",":Str).length=1:=rfl
  have l3:(":":Str).length=1:=rfl
  have:0<2 ^ p.depth:=FP (by decide)
  rw[Pat.text,Pat.depth,Fu]
  repeat rw[aB]
  lia
 | .mir p,h=>by
  have h1:=Pat.text_len (p:=p) h
  have l1:("m":Str).length=1:=rfl
  have:0<2 ^ p.depth:=FP (by decide)
  rw[Pat.text,Pat.depth,Fu,aB]
  lia
 | .tur p,h=>by
  have h1:=Pat.text_len (p:=p) h
  have l1:("t":Str).length=1:=rfl
  have:0<2 ^ p.depth:=FP (by decide)
  rw[Pat.text,Pat.depth,Fu,aB]
  lia
 | .hue f g p,h=>by
  have h1:=Pat.text_len h.2.2
  have la:=cV h.1
  have lb:=cV h.2.1
  have l1:("h":Str).length=1:=rfl
  have:0<2 ^ p.depth:=FP (by decide)
  rw[Pat.text,Pat.depth,Fu]
  repeat rw[aB]
  lia
theorem Pat.leaves_pos:∀ p:Pat,0<p.leaves.length
 | .mot ..=>Nat.zero_lt_one
 | .over p q=>by rw[Pat.leaves,E2];have:=p.leaves_pos;lia
 | .sh _ _ p=>by rw[Pat.leaves,E1];exact p.leaves_pos
 | .mir p=>by rw[Pat.leaves,E1];exact p.leaves_pos
 | .tur p=>by rw[Pat.leaves,E1];exact p.leaves_pos
 | .hue _ _ p=>by rw[Pat.leaves,E1];exact p.leaves_pos
theorem Pat.text_short{p:Pat}(h:p.Wf)(hd:p.depth<=5):p.text.length<=3510:=by
 have h1:=Pat.text_len h
 have h2:2 ^ p.depth<=2 ^ 5:=FI (by decide) hd
 lia
structure Pat.Ok(p:Pat):Prop where
 wf:p.Wf
 deep:p.depth<=5
 fits:p.Fits
theorem Wraps.of{p:Pat}{H:Prop}{R:My.D->Prop}(h:p.Ok)(hR:∀ q:Pat,q.Ok->R q.D):Wraps p H R:=by
 refine⟨λ_=>hR p h,λhd=>⟨hR _ ⟨h.wf,?_,h.fits.mir⟩,hR _ ⟨h.wf,?_,h.fits.tur⟩,λa b ha hb=>hR _ ⟨⟨ha,hb,h.wf⟩,?_,h.fits.sh a b⟩,λ_ f g hf hg=>hR _ ⟨⟨hf,hg,h.wf⟩,?_,h.fits.hue f g⟩⟩⟩<;>(simp only[Pat.depth];lia)
def Bd:SpD:=λds R=>∃ p q:Pat,ds=[p.D,q.D]/\p.Wf/\q.Wf/\p.depth<=5/\q.depth<=5/\R p.D/\(p.depth<5->q.depth<5->(Pat.over p q).Fits->R (Pat.over p q).D)
def Be:SpD:=λds R=>∃ (ns:List Int) (k:Int),ds=[.rol (ns.map D.int),.int k]/\0<=k/\∀ p:Pat,p.Ok->R p.D
inductive Wt where
 |sign (c:Nat)|pat (d:Nat)|lin (w h k:Nat)|hue|num|fig|more
 deriving DecidableEq
abbrev isSg(c:Nat):Bool:=c==46||(49<=c && c<=54)
def motW(r:List Wt):List Wt:= .lin 0 0 0:: .num:: .sign 44:: .num:: .sign 59:: .num:: .sign 44:: .num:: .sign 93::r
def bI(d c:Nat)(r:List Wt):Option (List Wt):=
 if c=91 then some (motW r)
 else if d=5 then none
 else if c=40 then some (.pat (d+1):: .sign 124:: .pat (d+1):: .sign 41::r)
 else if c=115 then some (.num:: .sign 44:: .num:: .sign 58:: .pat (d+1)::r)
 else if c=104 then some (.hue:: .hue:: .pat (d+1)::r)
 else if c=109\/c=116 then some (.pat (d+1)::r)
 else none
def cK(w h k c:Nat)(r:List Wt):Option (List Wt):=
 if isSg c then(if h<(if 0<k then w else 8) then some (.lin w (h+1) k::r) else none)
 else if h=0\/(0<k/\h<w) then none
 else if c=47 then(if k<7 then some (.lin h 0 (k+1)::r) else none)
 else if c=59 then some r
 else none
def aK:List Wt->Nat->Option (List Wt)
 |[],_=>none
 | .sign s::r,c=>if c=s then some r else none
 | .pat d::r,c=>bI d c r
 | .lin w h k::r,c=>cK w h k c r
 | .hue::r,c=>if 49<=c/\c<=54 then some r else none
 | .more::r,_=>some r
 | .num::r,c=>if c=49 then some (.more::r) else if c=45 then some (.fig::r) else if 48<=c/\c<=57 then some r else none
 | .fig::r,c=>if c=49 then some (.more::r) else if 50<=c/\c<=57 then some r else none
def aI(st:List Wt)(c:Nat):List Wt:=match st with
 | .more::r=>if 48<=c/\c<=50 then st else r
 |_=>st
def step(st:List Wt)(c:Nat):Option (List Wt):=aK (aI st c) c
def walk:List Wt->List Nat->Nat->Option Nat
 |st,[],k=>if st=[] then none else some k
 |st,c::l,k=>match step st c with
  |none=>some k
  |some st'=>walk st' l (k+1)
def cY(t:Str):Option Nat:=walk [.pat 0] (cs t) 0
def Pat.Syn:Pat->Prop
 | .mot L a b c d=>Rows L/\B12 a/\B12 b/\B12 c/\B12 d
 | .over p q=>p.Syn/\q.Syn
 | .sh a b p=>B12 a/\B12 b/\p.Syn
 | .mir p=>p.Syn
 | .tur p=>p.Syn
 | .hue f g p=>(1<=f/\f<=6)/\(1<=g/\g<=6)/\p.Syn
theorem Pat.Wf.syn:∀ {p:Pat},p.Wf->p.Syn
 | .mot ..,h=>⟨h.1,h.2.1,h.2.2.1,h.2.2.2.1,h.2.2.2.2.1⟩
 | .over p q,h=>⟨Pat.Wf.syn h.1,Pat.Wf.syn h.2⟩
 | .sh a b p,h=>⟨h.1,h.2.1,Pat.Wf.syn h.2.2⟩
 | .mir p,h=>Pat.Wf.syn (p:=p) h
 | .tur p,h=>Pat.Wf.syn (p:=p) h
 | .hue f g p,h=>⟨h.1,h.2.1,Pat.Wf.syn h.2.2⟩
theorem aF{st st':List Wt}{c:Nat}{l:List Nat}{k:Nat}(h:step st c=some st'):walk st (c::l) k=walk st' l (k+1):=by
 rw[walk,h]
def numL(a:Int):List Nat:=cs (toString a:String)
theorem sP{a:Int}(h:B12 a){P:Int->Prop}(hP:∀ k:Fin 25,P (((k.val:Nat):Int) - 12)):P a:=by
 unfold B12 at h
 have:=hP ⟨(a+12).toNat,by lia⟩
 have e:(((a+12).toNat:Nat):Int) - 12=a:=by lia
 rw[e] at this
 exact this
def isNumL(l:List Nat):Prop:=(∃ c,(48<=c/\c<=57)/\l=[c])\/(∃ c,(48<=c/\c<=50)/\l=[49,c])\/(∃ c,(49<=c/\c<=57)/\l=[45,c])\/∃ c,(48<=c/\c<=50)/\l=[45,49,c]
theorem numL_is{a:Int}(h:B12 a):isNumL (numL a):=by
 have key:∀ k:Fin 25,(numL (((k.val:Nat):Int) - 12))∈([[45,49,50],[45,49,49],[45,49,48],[45,57],[45,56],[45,55],[45,54],[45,53],[45,52],[45,51],[45,50],[45,49],[48],[49],[50],[51],[52],[53],[54],[55],[56],[57],[49,48],[49,49],[49,50]]:List (List Nat)):=by decide+kernel
 have h1:=sP (P:=λa=>numL a∈([[45,49,50],[45,49,49],[45,49,48],[45,57],[45,56],[45,55],[45,54],[45,53],[45,52],[45,51],[45,50],[45,49],[48],[49],[50],[51],[52],[53],[54],[55],[56],[57],[49,48],[49,49],[49,50]]:List (List Nat))) h key
 revert h1
 generalize numL a=l
 intro h1
 unfold isNumL
 simp only[EU,FY,or_false] at h1
 rcases h1 with e|e|e|e|e|e|e|e|e|e|e|e|e|e|e|e|e|e|e|e|e|e|e|e|e<;>subst e
 all_goals first
  |exact .inl ⟨_,by decide,rfl⟩
  |exact .inr (.inl ⟨_,by decide,rfl⟩)
  |exact .inr (.inr (.inl ⟨_,by decide,rfl⟩))
  |exact .inr (.inr (.inr ⟨_,by decide,rfl⟩))
theorem Bf{l:List Nat}(h:isNumL l):∃ a,B12 a/\numL a=l:=by
 have key:∀ c:Fin 58,(48<=c.val->∃ k:Fin 25,numL (((k.val:Nat):Int) - 12)=[c.val])/\(48<=c.val->c.val<=50->∃ k:Fin 25,numL (((k.val:Nat):Int) - 12)=[49,c.val])/\(49<=c.val->∃ k:Fin 25,numL (((k.val:Nat):Int) - 12)=[45,c.val])/\(48<=c.val->c.val<=50->∃ k:Fin 25,numL (((k.val:Nat):Int) - 12)=[45,49,c.val]):=by decide+kernel
 have d5:∀ k:Fin 25,B12 (((k.val:Nat):Int) - 12):=λk=>by unfold B12;have:=k.isLt;lia
 rcases h with⟨c,hc,rfl⟩|⟨c,hc,rfl⟩|⟨c,hc,rfl⟩|⟨c,hc,rfl⟩
 ·obtain⟨k,e⟩:=(key ⟨c,by lia⟩).1 (by show 48<=c;lia)
  exact⟨_,d5 k,e⟩
 ·obtain⟨k,e⟩:=(key ⟨c,by lia⟩).2.1 (by show 48<=c;lia) (by show c<=50;lia)
  exact⟨_,d5 k,e⟩
 ·obtain⟨k,e⟩:=(key ⟨c,by lia⟩).2.2.1 (by show 49<=c;lia)
  exact⟨_,d5 k,e⟩
 ·obtain⟨k,e⟩:=(key ⟨c,by lia⟩).2.2.2 (by show 48<=c;lia) (by show c<=50;lia)
  exact⟨_,d5 k,e⟩
def endS(c:Nat):Prop:=c=44\/c=59\/c=58\/c=93
theorem eM{l:List Nat}(h:isNumL l){c:Nat}(hc:endS c)(r:List Wt)(t:List Nat)(k:Nat):walk (.num:: .sign c::r) (l++c::t) k=walk r t (k+l.length+1):=by
 unfold endS at hc
 have Pm:¬ (48<=c/\c<=50):=by lia
 have d5:∀ k,walk (.sign c::r) (c::t) k=walk r t (k+1):=λk=>aF (by simp[step,aI,aK])
 have Kn:∀ k,walk (.more:: .sign c::r) (c::t) k=walk r t (k+1):=λk=>aF (by simp[step,aI,aK,Pm])
 rcases h with⟨x,hx,rfl⟩|⟨x,hx,rfl⟩|⟨x,hx,rfl⟩|⟨x,hx,rfl⟩
 ·by_cases e:x=49
  ·subst e
   show walk _ (49::c::t) k=_
   rw[aF (st':= .more:: .sign c::r) (by simp[step,aI,aK]),Kn];simp
  ·show walk _ (x::c::t) k=_
   rw[aF (st':= .sign c::r) (by simp[step,aI,aK,e,hx,show¬ x=45 by lia]),d5];simp
 ·show walk _ (49::x::c::t) k=_
  rw[aF (st':= .more:: .sign c::r) (by simp[step,aI,aK]),aF (st':= .sign c::r) (by simp[step,aI,aK,hx]),d5];simp
 ·show walk _ (45::x::c::t) k=_
  rw[aF (st':= .fig:: .sign c::r) (by simp[step,aI,aK])]
  by_cases e:x=49
  ·subst e
   rw[aF (st':= .more:: .sign c::r) (by simp[step,aI,aK]),Kn];simp
  ·rw[aF (st':= .sign c::r) (by simp[step,aI,aK,e,show 50<=x/\x<=57 by lia]),d5];simp
 ·show walk _ (45::49::x::c::t) k=_
  rw[aF (st':= .fig:: .sign c::r) (by simp[step,aI,aK]),aF (st':= .more:: .sign c::r) (by simp[step,aI,aK]),aF (st':= .sign c::r) (by simp[step,aI,aK,hx]),d5];simp
def rowsL:List (List Nat)->List Nat
 |[]=>[]
 |[x]=>x
 |x::y::r=>x++47::rowsL (y::r)
theorem Bg{c:Nat}(h:aG c):isSg c=true:=by
 unfold aG at h
 unfold isSg
 rcases h with h|h
 ·subst h;rfl
 ·have:(decide (49<=c) && decide (c<=54))=true:=by simp[h]
  rw[this,GY]
theorem isSign_of{c:Nat}(h:isSg c=true):aG c:=by
 unfold isSg at h
 unfold aG
 simp at h
 lia
theorem dH{w h k c:Nat}{r:List Wt}:step (.lin w h k::r) c=cK w h k c r:=by simp[step,aI,aK]
theorem eN{w k:Nat}{r:List Wt}:∀ (x:List Nat) (h:Nat) (t:List Nat) (j:Nat),(∀ c∈x,aG c)->h+x.length<=(if 0<k then w else 8)->walk (.lin w h k::r) (x++t) j=walk (.lin w (h+x.length) k::r) t (j+x.length)
 |[],h,t,j,_,_=>rfl
 |c::x,h,t,j,hs,hl=>by
  rw[EW] at hl ⊢
  have h1:step (.lin w h k::r) c=some (.lin w (h+1) k::r):=by
   rw[dH]
   unfold cK
   rw[if_pos (Bg (hs c EY)),if_pos (by lia)]
  rw[FE,aF h1,eN x (h+1) t (j+1) (λc q=>hs c (EV _ q)) (by lia)]
  rw[show h+1+x.length=h+(x.length+1) by lia,show j+1+x.length=j+(x.length+1) by lia]
theorem sQ{wd:Nat}(hw:1<=wd/\wd<=8){r:List Wt}:∀ (L:List (List Nat)) (w0 k:Nat) (t:List Nat) (j:Nat),L≠[]->(∀ x∈L,x.length=wd/\∀ c∈x,aG c)->k+L.length<=8->(0<k->w0=wd)->walk (.lin w0 0 k::r) (rowsL L++59::t) j=walk r t (j+(rowsL L).length+1)
 |[],_,_,_,_,ne,_,_,_=>absurd rfl ne
 |[x],w0,k,t,j,_,hs,hl,hk=>by
  obtain⟨h1,h2⟩:=hs x EY
  have hb:0+x.length<=(if 0<k then w0 else 8):=by split<;>lia
  have ns:isSg 59=false:=rfl
  have h3:step (.lin w0 (0+x.length) k::r) 59=some r:=by
   rw[dH]
   unfold cK
   rw[ns,if_neg E6,if_neg (by lia),if_neg (by decide),if_pos rfl]
  show walk (.lin w0 0 k::r) (x++59::t) j=walk r t (j+x.length+1)
  rw[eN x 0 _ j h2 hb,aF h3]
 |x::y::L,w0,k,t,j,_,hs,hl,hk=>by
  obtain⟨h1,h2⟩:=hs x EY
  rw[EW,EW] at hl
  have hb:0+x.length<=(if 0<k then w0 else 8):=by split<;>lia
  have ns:isSg 47=false:=rfl
  have h3:step (.lin w0 (0+x.length) k::r) 47=some (.lin (0+x.length) 0 (k+1)::r):=by
   rw[dH]
   unfold cK
   rw[ns,if_neg E6,if_neg (by lia),if_pos rfl,if_pos (by lia)]
  show walk (.lin w0 0 k::r) ((x++47::rowsL (y::L))++59::t) j=walk r t (j+(x++47::rowsL (y::L)).length+1)
  rw[Fz,FE,eN x 0 _ j h2 hb,aF h3,sQ hw (y::L) (0+x.length) (k+1) t _ (λz=>nomatch z) (λz q=>hs z (EV _ q)) (by rw[EW];lia) (λ_=>by lia)]
  rw[E2,EW]
  congr 1
  lia
def motL(L:List (List Nat))(a b c d:Int):List Nat:=91::(rowsL L++59::(numL a++44::(numL b++59::(numL c++44::(numL d++[93])))))
def Pat.tl:Pat->List Nat
 | .mot L a b c d=>motL (L.map cs) a b c d
 | .over p q=>40::(p.tl++124::(q.tl++[41]))
 | .sh a b p=>115::(numL a++44::(numL b++58::p.tl))
 | .mir p=>109::p.tl
 | .tur p=>116::p.tl
 | .hue f g p=>104::(numL f++(numL g++p.tl))
theorem sR:∀ L:List Str,cs (Str.join "/" L)=rowsL (L.map cs)
 |[]=>rfl
 |[x]=>rfl
 |x::y::L=>by
  show cs (x++"/"++Str.join "/" (y::L))=cs x++47::rowsL ((y::L).map cs)
  rw[bF,bF,sR (y::L),Fz]
  rfl
theorem cZ:∀ p:Pat,cs p.text=p.tl
 | .mot L a b c d=>by
  show cs (cJ L a b c d)=motL (L.map cs) a b c d
  unfold cJ motL
  have e:Txt.join "/" L=Str.join "/" L:=StrLaws.glued_eq_join _ _
  rw[e]
  repeat rw[bF]
  rw[sR]
  simp only[Fz]
  rfl
 | .over p q=>by
  rw[Pat.text,Pat.tl]
  repeat rw[bF]
  rw[cZ p,cZ q]
  simp only[Fz]
  rfl
 | .sh a b p=>by
  rw[Pat.text,Pat.tl]
  repeat rw[bF]
  rw[cZ p]
  simp only[Fz]
  rfl
 | .mir p=>by
  rw[Pat.text,Pat.tl,bF,cZ p]
  rfl
 | .tur p=>by
  rw[Pat.text,Pat.tl,bF,cZ p]
  rfl
 | .hue f g p=>by
  rw[Pat.text,Pat.tl]
  repeat rw[bF]
  rw[cZ p]
  simp only[Fz]
  rfl
theorem hueL{f:Int}(h:1<=f/\f<=6):numL f=[(48+f).toNat]:=by
 have key:∀ k:Fin 6,numL (((k.val:Nat):Int)+1)=[49+k.val]:=by decide+kernel
 have:=key ⟨(f - 1).toNat,by lia⟩
 have e:(((f - 1).toNat:Nat):Int)+1=f:=by lia
 rw[e] at this
 rw[this]
 congr 1
 show 49+(f - 1).toNat=(48+f).toNat
 lia
theorem bJ{d c:Nat}{r:List Wt}:step (.pat d::r) c=bI d c r:=by simp[step,aI,aK]
theorem sS{f:Int}(h:1<=f/\f<=6)(r:List Wt)(t:List Nat)(k:Nat):walk (.hue::r) (numL f++t) k=walk r t (k+1):=by
 rw[hueL h]
 show walk (.hue::r) ((48+f).toNat::t) k=_
 exact aF (by simp[step,aI,aK];lia)
theorem Bh{L:List Str}{a b c d:Int}(hL:Rows L)(ha:B12 a)(hb:B12 b)(hc:B12 c)(hd:B12 d)(n:Nat)(r:List Wt)(t:List Nat)(k:Nat):walk (.pat n::r) (motL (L.map cs) a b c d++t) k=walk r t (k+(motL (L.map cs) a b c d).length):=by
 obtain⟨h1,w,hw,hs⟩:=hL
 have Js:∀ x∈L.map cs,x.length=w/\∀ c∈x,aG c:=λx hx=>by
  obtain⟨l,q1,q2⟩:=Fq.mp hx
  subst q2
  exact⟨by rw[bq];exact(hs l q1).1,(hs l q1).2⟩
 have j3:L.map cs≠[]:=λz=>by have:=congrArg Gi z;simp at this;subst this;simp at h1
 unfold motL
 simp only[FE,Fz,HP]
 have d5:∀ k,walk (.sign 93::r) (93::t) k=walk r t (k+1):=λk=>aF (by simp[step,aI,aK])
 rw[aF (st':=motW r) (by rw[bJ];simp[bI])]
 unfold motW
 rw[sQ hw (L.map cs) 0 0 _ _ j3 Js (by rw[E1];lia) (λz=>absurd z (by lia))]
 rw[eM (numL_is ha) (.inl rfl),eM (numL_is hb) (.inr (.inl rfl)),eM (numL_is hc) (.inl rfl),eM (numL_is hd) (.inr (.inr (.inr rfl)))]
 congr 1
 simp only[EW,E2,Gk]
 lia
theorem cA:∀ {p:Pat},p.Syn->∀ (d:Nat) (r:List Wt) (t:List Nat) (k:Nat),p.depth+d<=5->walk (.pat d::r) (p.tl++t) k=walk r t (k+p.tl.length)
 | .mot L a b c e,h,d,r,t,k,_=>Bh h.1 h.2.1 h.2.2.1 h.2.2.2.1 h.2.2.2.2 d r t k
 | .over p q,h,d,r,t,k,hd=>by
  rw[Pat.depth] at hd
  have h1:step (.pat d::r) 40=some (.pat (d+1):: .sign 124:: .pat (d+1):: .sign 41::r):=by rw[bJ];simp[bI,show¬ d=5 by lia]
  rw[Pat.tl]
  simp only[FE,Fz,HP]
  rw[aF h1,cA h.1 (d+1) _ _ _ (by lia),aF (st':= .pat (d+1):: .sign 41::r) (by simp[step,aI,aK]),cA h.2 (d+1) _ _ _ (by lia),aF (st':=r) (by simp[step,aI,aK])]
  congr 1
  simp only[EW,E2,Gk]
  lia
 | .sh a b p,h,d,r,t,k,hd=>by
  rw[Pat.depth] at hd
  have h1:step (.pat d::r) 115=some (.num:: .sign 44:: .num:: .sign 58:: .pat (d+1)::r):=by rw[bJ];simp[bI,show¬ d=5 by lia]
  rw[Pat.tl]
  simp only[FE,Fz]
  rw[aF h1,eM (numL_is h.1) (.inl rfl),eM (numL_is h.2.1) (.inr (.inr (.inl rfl))),cA h.2.2 (d+1) _ _ _ (by lia)]
  congr 1
  simp only[EW,E2]
  lia
 | .mir p,h,d,r,t,k,hd=>by
  rw[Pat.depth] at hd
  have h1:step (.pat d::r) 109=some (.pat (d+1)::r):=by rw[bJ];simp[bI,show¬ d=5 by lia]
  rw[Pat.tl,FE,aF h1,cA (p:=p) h (d+1) _ _ _ (by lia),EW]
  congr 1
  lia
 | .tur p,h,d,r,t,k,hd=>by
  rw[Pat.depth] at hd
  have h1:step (.pat d::r) 116=some (.pat (d+1)::r):=by rw[bJ];simp[bI,show¬ d=5 by lia]
  rw[Pat.tl,FE,aF h1,cA (p:=p) h (d+1) _ _ _ (by lia),EW]
  congr 1
  lia
 | .hue f g p,h,d,r,t,k,hd=>by
  rw[Pat.depth] at hd
  have h1:step (.pat d::r) 104=some (.hue:: .hue:: .pat (d+1)::r):=by rw[bJ];simp[bI,show¬ d=5 by lia]
  rw[Pat.tl]
  simp only[FE,Fz]
  rw[aF h1,sS h.1,sS h.2.1,cA h.2.2 (d+1) _ _ _ (by lia)]
  rw[hueL h.1,hueL h.2.1]
  congr 1
  simp only[EW,E2,Gk]
  lia
theorem sT{p:Pat}(h:p.Syn)(hd:p.depth<=5):cY p.text=none:=by
 unfold cY
 rw[cZ]
 have:=cA h 0 [] [] 0 (by lia)
 rw[FA] at this
 rw[this]
 rfl
theorem eO{x y:Str}(h:cs x=cs y):x=y:=by
 obtain⟨a⟩:=x
 obtain⟨b⟩:=y
 have:a=b:=HQ.mp h
 rw[this]
def Pat.lineAt:Pat->Nat->Option Nat
 | .mot _ a b c d,k=>if a*d=b*c then some k else none
 | .over p q,k=>match p.lineAt (k+1) with
  |some j=>some j
  |none=>q.lineAt (k+1+p.tl.length+1)
 | .sh a b p,k=>p.lineAt (k+1+(numL a).length+1+(numL b).length+1)
 | .mir p,k=>p.lineAt (k+1)
 | .tur p,k=>p.lineAt (k+1)
 | .hue _ _ p,k=>p.lineAt (k+3)
theorem Pat.line_wf:∀ {p:Pat} (k:Nat),p.Syn->p.lineAt k=none->p.Wf
 | .mot L a b c d,k,h,e=>by
  refine⟨h.1,h.2.1,h.2.2.1,h.2.2.2.1,h.2.2.2.2,λz=>?_⟩
  rw[Pat.lineAt,if_pos z] at e;cases e
 | .over p q,k,h,e=>by
  rw[Pat.lineAt] at e
  cases hp:p.lineAt (k+1) with
  |some j=>rw[hp] at e;cases e
  |none=>rw[hp] at e;exact⟨Pat.line_wf _ h.1 hp,Pat.line_wf _ h.2 e⟩
 | .sh a b p,k,h,e=>⟨h.1,h.2.1,Pat.line_wf _ h.2.2 (by rw[Pat.lineAt] at e;exact e)⟩
 | .mir p,k,h,e=>Pat.line_wf (p:=p) (k+1) h (by rw[Pat.lineAt] at e;exact e)
 | .tur p,k,h,e=>Pat.line_wf (p:=p) (k+1) h (by rw[Pat.lineAt] at e;exact e)
 | .hue f g p,k,h,e=>⟨h.1,h.2.1,Pat.line_wf _ h.2.2 (by rw[Pat.lineAt] at e;exact e)⟩
theorem Pat.wf_line:∀ {p:Pat} (k:Nat),p.Wf->p.lineAt k=none
 | .mot L a b c d,k,h=>by rw[Pat.lineAt,if_neg h.2.2.2.2.2]
 | .over p q,k,h=>by
  rw[Pat.lineAt,Pat.wf_line (p:=p) _ h.1]
  exact Pat.wf_line (p:=q) _ h.2
 | .sh a b p,k,h=>by rw[Pat.lineAt];exact Pat.wf_line (p:=p) _ h.2.2
 | .mir p,k,h=>by rw[Pat.lineAt];exact Pat.wf_line (p:=p) _ h
 | .tur p,k,h=>by rw[Pat.lineAt];exact Pat.wf_line (p:=p) _ h
 | .hue f g p,k,h=>by rw[Pat.lineAt];exact Pat.wf_line (p:=p) _ h.2.2
theorem Pat.syn_len:∀ {p:Pat},p.Syn->p.text.length+10<=110*2 ^ p.depth
 | .mot L a b c d,h=>by
  have:=sO h.1 h.2.1 h.2.2.1 h.2.2.2.1 h.2.2.2.2
  show(cJ L a b c d).length+10<=110*2 ^ 0
  lia
 | .over p q,h=>by
  have h1:=Pat.syn_len h.1
  have h2:=Pat.syn_len h.2
  have m1:2 ^ p.depth<=2 ^ (max p.depth q.depth):=FI (by decide) (Hb _ _)
  have m2:2 ^ q.depth<=2 ^ (max p.depth q.depth):=FI (by decide) (Hc _ _)
  have l1:("(":Str).length=1:=rfl
  have l2:("|":Str).length=1:=rfl
  have l3:(")":Str).length=1:=rfl
  rw[Pat.text,Pat.depth,Hd]
  repeat rw[aB]
  lia
 | .sh a b p,h=>by
  have h1:=Pat.syn_len h.2.2
  have la:=bu h.1
  have lb:=bu h.2.1
  have l1:("s":Str).length=1:=rfl
  have l2:(",":Str).length=1:=rfl
  have l3:(":":Str).length=1:=rfl
  have:0<2 ^ p.depth:=FP (by decide)
  rw[Pat.text,Pat.depth,Fu]
  repeat rw[aB]
  lia
 | .mir p,h=>by
  have h1:=Pat.syn_len (p:=p) h
  have l1:("m":Str).length=1:=rfl
  have:0<2 ^ p.depth:=FP (by decide)
  rw[Pat.text,Pat.depth,Fu,aB]
  lia
 | .tur p,h=>by
  have h1:=Pat.syn_len (p:=p) h
  have l1:("t":Str).length=1:=rfl
  have:0<2 ^ p.depth:=FP (by decide)
  rw[Pat.text,Pat.depth,Fu,aB]
  lia
 | .hue f g p,h=>by
  have h1:=Pat.syn_len h.2.2
  have la:=cV h.1
  have lb:=cV h.2.1
  have l1:("h":Str).length=1:=rfl
  have:0<2 ^ p.depth:=FP (by decide)
  rw[Pat.text,Pat.depth,Fu]
  repeat rw[aB]
  lia
theorem Pat.syn_short{p:Pat}(h:p.Syn)(hd:p.depth<=5):p.text.length<=3510:=by
 have h1:=Pat.syn_len h
 have h2:2 ^ p.depth<=2 ^ 5:=FI (by decide) hd
 lia
theorem ifT{c A B:Prop}[Decidable c](h:c)(a:A):if c then A else B:=by rw[if_pos h];exact a
theorem ifdT{p A B:Prop}[Decidable p](h:p)(a:A):if decide p=true then A else B:=by rw[if_pos (decide_eq_true h)];exact a
theorem ifdF{p A B:Prop}[Decidable p](h:¬ p)(b:B):if decide p=true then A else B:=by rw[if_neg (by simpa using h)];exact b
def rdF(t:Str)(k:Nat):List (Str × D):=[("text",.str t),("place",.int k)]
def RdM(a:Addr)(t:Str)(k:Nat):MS:=[(a,.ins "Reading" (rdF t k))]
theorem cB{a:Addr}{o:MO}:mget [(a,o)] a=some o:=by unfold mget;rw[if_pos rfl]
theorem eQ{a:Addr}{o o':MO}:mput [(a,o)] a o'=[(a,o')]:=by unfold mput;rw[if_pos rfl]
theorem aN{a:Addr}{t:Str}{k:Nat}:mget (RdM a t k) a=some (.ins "Reading" (rdF t k)):=cB
theorem kq{t:Str}{k:Nat}:(rdF t k).lookup ("text":Str)=some (.str t):=rfl
theorem db{t:Str}{k:Nat}:(rdF t k).lookup ("place":Str)=some (.int k):=by
 unfold rdF
 rw[Fd,show(("place":Str)==("text":Str))=false by decide+kernel]
 rfl
theorem Bi{t:Str}{k:Nat}:putD ("place":Str) (.int ((k:Int)+1)) (rdF t k)=rdF t (k+1):=by
 unfold rdF putD
 rw[if_neg (by decide+kernel)]
 unfold putD
 rw[if_pos rfl]
 rfl
theorem cL{t:Str}{k:Nat}:(rdF t k).lookup ("may_take":Str)=none:=by
 unfold rdF
 rw[Fd,show(("may_take":Str)==("text":Str))=false by decide+kernel,Fd,show(("may_take":Str)==("place":Str))=false by decide+kernel]
 rfl
theorem bT{t:Str}{k:Nat}:(rdF t k).lookup ("take":Str)=none:=by
 unfold rdF
 rw[Fd,show(("take":Str)==("text":Str))=false by decide+kernel,Fd,show(("take":Str)==("place":Str))=false by decide+kernel]
 rfl
structure At(t:Str)(k:Nat)(l:List Nat):Prop where
 eq:(cs t).drop k=l
 le:k<=t.length
 sz:t.length<=100000
theorem At.nil{t:Str}{k:Nat}(h:At t k []):k=t.length:=by
 have h1:=congrArg Gi h.eq
 rw[Gj,bq] at h1
 have:=h.le
 simp at h1
 lia
theorem At.lt{t:Str}{k c:Nat}{l:List Nat}(h:At t k (c::l)):k<t.length:=by
 have h1:=congrArg Gi h.eq
 rw[Gj,bq] at h1
 simp at h1
 lia
theorem At.get{t:Str}{k c:Nat}{l:List Nat}(h:At t k (c::l)):(cs t)[k]?=some c:=by
 have h1:=congrArg (·[0]?) h.eq
 simpa using h1
theorem At.next{t:Str}{k c:Nat}{l:List Nat}(h:At t k (c::l)):At t (k+1) l:=by
 refine⟨?_,h.lt,h.sz⟩
 have h1:=congrArg (G2 1) h.eq
 rw[List.drop_drop] at h1
 simpa using h1
theorem At.app{t:Str}:∀ {x l:List Nat} {k:Nat},At t k (x++l)->At t (k+x.length) l
 |[],_,_,h=>h
 |c::x,l,k,h=>by
  have h1:At t (k+1+x.length) l:=At.app (At.next h)
  have e:k+1+x.length=k+(c::x).length:=by rw[EW];lia
  rw[e] at h1;exact h1
theorem sU{c:Nat}{al:Str}:(!(!(Builtin.Str.occurrences al ⟨#[c]⟩ 0 al.length 1).isEmpty))=!decide (c∈cs al):=by
 rw[StrLaws.found_one]
def mayS(al:Str):List Nat->Str|c::_=>if c∈cs al then⟨#[c]⟩ else ""|[]=>""
def mayN(al:Str):List Nat->Nat|c::_=>if c∈cs al then 1 else 0|[]=>0
theorem dI{al:Str}{c:Nat}{l:List Nat}(h:c∈cs al):mayS al (c::l)=⟨#[c]⟩:=if_pos h
theorem dJ{al:Str}{c:Nat}{l:List Nat}(h:c∈cs al):mayN al (c::l)=1:=if_pos h
theorem de{al:Str}{c:Nat}{l:List Nat}(h:c ∉ cs al):mayS al (c::l)="":=if_neg h
theorem df{al:Str}{c:Nat}{l:List Nat}(h:c ∉ cs al):mayN al (c::l)=0:=if_neg h
def Bj:SiD:=λds R=>∃ t:Str,ds=[.str t]/\R (rdF t 0)
def Bk:SpM:=λds M R RX=>∃ (a:Addr) (t:Str) (k:Nat) (l:List Nat) (al:Str),ds=[.ptr a,.str al]/\M=RdM a t k/\At t k l/\R (.str (mayS al l)) (RdM a t (k+mayN al l))
def Bl:SpM:=λds M R RX=>∃ (a:Addr) (t:Str) (k:Nat) (l:List Nat) (al:Str),ds=[.ptr a,.str al]/\M=RdM a t k/\At t k l/\
 (∀ c l',l=c::l'->c∈cs al->R (.str ⟨#[c]⟩) (RdM a t (k+1)))/\((∀ c l',l=c::l'->c ∉ cs al)->∀ M',RX "WrongSign" [("place",.int k)] M')
theorem walk_bad{st:List Wt}{l:List Nat}{k:Nat}(h1:st≠[])(h:∀ c l',l=c::l'->step st c=none):walk st l k=some k:=by
 cases l with
 |nil=>rw[walk,if_neg h1]
 |cons c l=>rw[walk,h c l rfl]
theorem dL{e:Nat}{r:List Wt}{l:List Nat}{k:Nat}(h:∀ l',l≠e::l'):walk (.sign e::r) l k=some k:=
 walk_bad (λz=>nomatch z) λc l' q=>by
  have:c≠e:=λz=>h l' (z ▸ q)
  simp[step,aI,aK,this]
theorem dM{e:Nat}{r:List Wt}{l:List Nat}{k:Nat}:walk (.sign e::r) (e::l) k=walk r l (k+1):=aF (by simp[step,aI,aK])
theorem Bm{e:Nat}{r:List Wt}{l:List Nat}{k:Nat}(h:∀ d l',l=d::l'->¬ (48<=d/\d<=50)):walk (.more:: .sign e::r) l k=walk (.sign e::r) l k:=by
 cases l with
 |nil=>simp[walk]
 |cons d l=>
  have:step (.more:: .sign e::r) d=step (.sign e::r) d:=by simp[step,aI,h d l rfl]
  rw[walk,walk,this]
theorem Bn{pre:List Nat}(hp:pre=[]\/pre=[45]){c:Nat}(hc:49<=c/\c<=57){x l3 l:List Nat}(hx:(c=49/\∃ d,(48<=d/\d<=50)/\x=[d])\/(x=[]/\(c=49->∀ d l',l3=d::l'->¬ (48<=d/\d<=50))))(k e:Nat)(r:List Wt)(hl:l=pre++c::(x++l3)):
  walk (.num:: .sign e::r) l k=walk (.sign e::r) l3 (k+(pre++c::x).length):=by
 subst hl
 have fig:∀ k,walk (.fig:: .sign e::r) (c::(x++l3)) k=walk (.sign e::r) l3 (k+(c::x).length):=λk=>by
  rcases hx with⟨rfl,d,hd,rfl⟩|⟨rfl,h⟩
  ·rw[aF (st':= .more:: .sign e::r) (by simp[step,aI,aK])]
   show walk _ (d::l3) _=_
   rw[aF (st':= .sign e::r) (by simp[step,aI,aK,hd])]
   rfl
  ·by_cases e1:c=49
   ·subst e1
    rw[aF (st':= .more:: .sign e::r) (by simp[step,aI,aK])]
    show walk _ l3 _=_
    rw[Bm (h rfl)];rfl
   ·rw[aF (st':= .sign e::r) (by simp[step,aI,aK,e1,show 50<=c/\c<=57 by lia])];rfl
 rcases hp with rfl|rfl
 ·have same:step (.num:: .sign e::r) c=step (.fig:: .sign e::r) c:=by
   by_cases e1:c=49
   ·subst e1;simp[step,aI,aK]
   ·simp[step,aI,aK,e1,show¬ c=45 by lia,show 48<=c/\c<=57 by lia,show 50<=c/\c<=57 by lia]
  have:=fig k
  rw[walk] at this
  show walk _ (c::(x++l3)) k=_
  rw[walk,same,this]
  simp
 ·show walk _ (45::c::(x++l3)) k=_
  rw[aF (st':= .fig:: .sign e::r) (by simp[step,aI,aK]),fig]
  congr 1
  simp only[E2,EW,Gk]
  lia
theorem Bo{pre:List Nat}(hp:pre=[]\/pre=[45]){l l1:List Nat}(hl:l=pre++l1)(h:∀ c l',l1=c::l'->¬ (49<=c/\c<=57))(h0:pre=[]->∀ c l',l1=c::l'->c≠48/\c≠45)(k:Nat)(r:List Wt):walk (.num::r) l k=some (k+pre.length):=by
 subst hl
 rcases hp with rfl|rfl
 ·refine walk_bad (λz=>nomatch z) λc l' q=>?_
  have h1:=h c l' q
  have h2:=h0 rfl c l' q
  simp[step,aI,aK,h2.2,show¬ c=49 by lia,show¬ (48<=c/\c<=57) by lia]
 ·show walk _ (45::l1) k=_
  rw[aF (st':= .fig::r) (by simp[step,aI,aK])]
  refine walk_bad (λz=>nomatch z) λc l' q=>?_
  have h1:=h c l' q
  simp[step,aI,aK,show¬ c=49 by lia,show¬ (50<=c/\c<=57) by lia]
theorem kr{x:Int}(h:B12 x):PySem.intText? ⟨(numL x).toArray⟩=some x:=
 sP (P:=λx=>PySem.intText? ⟨(numL x).toArray⟩=some x) h (by decide+kernel)
theorem eU(x y:List Nat):((⟨x.toArray⟩:Str)++⟨y.toArray⟩:Str)=⟨(x++y).toArray⟩:=by
 apply eO
 rw[bF]
theorem digits19{c:Nat}:c∈cs "123456789"↔49<=c/\c<=57:=by
 have e:cs "123456789"=[49,50,51,52,53,54,55,56,57]:=rfl
 rw[e];simp;lia
theorem digits02{c:Nat}:c∈cs "012"↔48<=c/\c<=50:=by
 have e:cs "012"=[48,49,50]:=rfl
 rw[e];simp;lia
theorem Bp(w:List Nat)(c:Nat):Txt.endswith ⟨(w++[c]).toArray⟩ "1"=decide (c=49):=by
 unfold Txt.endswith
 have e1:("1":Str).length=1:=rfl
 have e2:(⟨(w++[c]).toArray⟩:Str).length=w.length+1:=by simp[Str.length]
 rw[e1,e2]
 have e3:decide (0+1<=w.length+1)=true:=by simp
 rw[e3,Bool.true_and,HN]
 unfold Builtin.Str.subAt
 have e4:(⟨(w++[c]).toArray⟩:Str).cps.extract w.length (w.length+("1":Str).length)=#[c]:=by
  apply HQ.mp
  simp[Array.toList_extract,e1]
 rw[e4]
 have e5:("1":Str).cps=#[49]:=rfl
 rw[e5]
 by_cases h:c=49
 ·subst h;rfl
 ·simp[h]
def Bq:SpM:=λds M R RX=>∃ (a:Addr) (t:Str) (k:Nat) (l:List Nat),ds=[.ptr a]/\M=RdM a t k/\At t k l/\
 (∀ x l',B12 x->l=numL x++l'->(∀ e r,walk (.num:: .sign e::r) l k=walk (.sign e::r) l' (k+(numL x).length))->R (.int x) (RdM a t (k+(numL x).length)))/\
 (∀ j:Nat,(∀ r,walk (.num::r) l k=some j)->∀ M',RX "WrongSign" [("place",.int j)] M')
def Br:SpM:=λds M R RX=>∃ (a:Addr) (t:Str) (k:Nat) (l:List Nat),ds=[.ptr a]/\M=RdM a t k/\At t k l/\
 (∀ x y l',B12 x->B12 y->l=numL x++44::(numL y++l')->(∀ e r,walk (.num:: .sign 44:: .num:: .sign e::r) l k=walk (.sign e::r) l' (k+(numL x).length+1+(numL y).length))->R (.tup [.int x,.int y]) (RdM a t (k+(numL x).length+1+(numL y).length)))/\
 (∀ j:Nat,(∀ r,walk (.num:: .sign 44:: .num::r) l k=some j)->∀ M',RX "WrongSign" [("place",.int j)] M')
def sgPre:Nat->List Nat->List Nat
 |0,_=>[]
 |_+1,[]=>[]
 |n+1,c::l=>if isSg c=true then c::sgPre n l else[]
theorem eV(n c:Nat)(l:List Nat):sgPre (n+1) (c::l)=if isSg c=true then c::sgPre n l else[]:=rfl
theorem sgPre_succ:∀ (n:Nat) (l:List Nat),(∃ c l',l=sgPre n l++c::l'/\(sgPre n l).length=n/\isSg c=true/\sgPre (n+1) l=sgPre n l++[c])\/(∃ l',l=sgPre n l++l'/\(∀ c Mm,l'=c::Mm->isSg c=false)/\∀ m,n<=m->sgPre m l=sgPre n l)
 |0,[]=> .inr ⟨[],rfl,(λ_ _ q=>nomatch q),λm _=>by cases m<;>rfl⟩
 |0,c::l=>by
  by_cases h:isSg c=true
  ·exact .inl ⟨c,l,rfl,rfl,h,by rw[eV,if_pos h];rfl⟩
  ·refine .inr ⟨c::l,rfl,λ_ _ q=>?_,λm _=>?_⟩
   ·cases q;simpa using h
   ·cases m with
    |zero=>rfl
    |succ m=>rw[eV,if_neg h];rfl
 |n+1,[]=> .inr ⟨[],rfl,(λ_ _ q=>nomatch q),λm _=>by cases m<;>rfl⟩
 |n+1,c::l=>by
  by_cases h:isSg c=true
  ·have e:∀ m,sgPre (m+1) (c::l)=c::sgPre m l:=λm=>by rw[eV,if_pos h]
   rcases sgPre_succ n l with⟨d,l',h1,h2,h3,h4⟩|⟨l',h1,h2,h3⟩
   ·refine .inl ⟨d,l',?_,by rw[e,EW,h2],h3,by rw[e,e,h4];rfl⟩
    rw[e];exact congrArg (c::·) h1
   ·refine .inr ⟨l',?_,h2,λm hm=>?_⟩
    ·rw[e];exact congrArg (c::·) h1
    ·cases m with
     |zero=>lia
     |succ m=>rw[e,e,h3 m (by lia)]
  ·refine .inr ⟨c::l,?_,λ_ _ q=>?_,λm hm=>?_⟩
   ·rw[eV,if_neg h];rfl
   ·cases q;simpa using h
   ·cases m with
    |zero=>lia
    |succ m=>rw[eV,if_neg h,eV,if_neg h]
theorem gW:∀ (n:Nat) (l:List Nat),(sgPre n l).length<=n
 |0,_=>ER _
 |n+1,[]=>Fp _
 |n+1,c::l=>by
  rw[sgPre]
  split
  ·rw[EW];exact Nat.succ_le_succ (gW n l)
  ·exact Fp _
theorem sgPre_sign:∀ (n:Nat) (l:List Nat),∀ c∈sgPre n l,aG c
 |0,_,_,h=>by cases h
 |n+1,[],_,h=>by cases h
 |n+1,c::l,d,h=>by
  rw[sgPre] at h
  split at h
  ·rename_i q
   rcases EU.mp h with e|e
   ·rw[e];exact isSign_of q
   ·exact sgPre_sign n l d e
  ·cases h
theorem sgPre_split(n:Nat)(l:List Nat):∃ l',l=sgPre n l++l'/\((sgPre n l).length=n\/∀ c Mm,l'=c::Mm->isSg c=false):=by
 rcases sgPre_succ n l with⟨d,l',h1,h2,h3,h4⟩|⟨l',h1,h2,h3⟩
 ·exact⟨d::l',h1,.inl h2⟩
 ·exact⟨l',h1,.inr h2⟩
theorem signs_is{c:Nat}:c∈cs ".123456"↔isSg c=true:=by
 have e:cs ".123456"=[46,49,50,51,52,53,54]:=rfl
 rw[e]
 simp
 lia
theorem dN(x:List Nat):(⟨x.toArray⟩:Str).length=x.length:=by simp[Str.length]
def Bs:SpM:=λds M R RX=>∃ (a:Addr) (t:Str) (k:Nat) (l:List Nat) (n m:Nat),ds=[.ptr a,.int n,.int m]/\M=RdM a t k/\At t k l/\n<=m/\m<=8/\
 (n<=(sgPre m l).length->R (.str ⟨(sgPre m l).toArray⟩) (RdM a t (k+(sgPre m l).length)))/\((sgPre m l).length<n->∀ M',RX "WrongSign" [("place",.int ((k+(sgPre m l).length:Nat):Int))] M')
theorem Bt{p a:Addr}{o:MO}{t:Str}{k:Nat}(h:p≠a):mget ((p,o)::RdM a t k) a=some (.ins "Reading" (rdF t k)):=by
 unfold mget
 rw[if_neg h]
 exact cB
theorem cM{p:Addr}{o:MO}{M:MS}:mget ((p,o)::M) p=some o:=by unfold mget;rw[if_pos rfl]
theorem sV{p:Addr}{o o':MO}{M:MS}:mput ((p,o)::M) p o'=(p,o')::M:=by unfold mput;rw[if_pos rfl]
theorem ku{p:Addr}{o:MO}{M:MS}:mdel ((p,o)::M) p=M:=by unfold mdel;rw[if_pos rfl]
structure RowsL(L:List (List Nat))(w:Nat):Prop where
 many:1<=L.length/\L.length<=8
 w1:1<=w
 w8:w<=8
 each:∀ x∈L,x.length=w/\∀ c∈x,aG c
theorem gX:∀ (L:List (List Nat)) (x:List Nat),L≠[]->rowsL (L++[x])=rowsL L++47::x
 |[],_,h=>absurd rfl h
 |[y],x,_=>rfl
 |y::z::L,x,_=>by
  show y++47::rowsL ((z::L)++[x])=(y++47::rowsL (z::L))++47::x
  rw[gX (z::L) x (λq=>nomatch q)]
  simp
structure LinAt(w h n:Nat)(l:List Nat):Prop where
 h1:1<=h
 n1:1<=n
 one:n=1->h=8\/∀ c l',l=c::l'->isSg c=false
 more:2<=n->w=h
theorem Bu{w h n:Nat}{l:List Nat}(H:LinAt w h n l)(hn:n<=8)(stop:n=8\/∀ l',l≠47::l')(r:List Wt)(p:Nat):walk (.lin w h (n - 1)::r) l p=walk (.sign 59::r) l p:=by
 cases l with
 |nil=>simp[walk]
 |cons c l=>
  have key:step (.lin w h (n - 1)::r) c=step (.sign 59::r) c:=by
   rw[dH]
   unfold cK
   have Pn:step (.sign 59::r) c=if c=59 then some r else none:=by simp[step,aI,aK]
   rw[Pn]
   have h1:=H.h1
   by_cases hs:isSg c=true
   ·rw[if_pos hs]
    have nc:¬ c=59:=by rintro rfl;cases hs
    rw[if_neg nc]
    refine if_neg ?_
    by_cases n1:n=1
    ·rcases H.one n1 with e|e
     ·subst n1;simp;lia
     ·rw[e c l rfl] at hs;cases hs
    ·have NX:=H.n1
     have:=H.more (by lia)
     rw[if_pos (by lia)];lia
   ·rw[if_neg hs]
    have g:¬ (h=0\/(0<n - 1/\h<w)):=by
     have NX:=H.n1
     rintro(z|⟨z1,z2⟩)
     ·lia
     ·have:=H.more (by lia);lia
    rw[if_neg g]
    by_cases NY:c=47
    ·subst NY
     rw[if_pos rfl,if_neg (c:=47=59) (by decide)]
     refine if_neg ?_
     rcases stop with e|e
     ·lia
     ·exact absurd rfl (e l)
    ·rw[if_neg NY]
  rw[walk,walk,key]
theorem sW{w h n:Nat}{l:List Nat}(H:LinAt w h n (47::l))(hn:n<8)(r:List Wt)(p:Nat):walk (.lin w h (n - 1)::r) (47::l) p=walk (.lin h 0 n::r) l (p+1):=by
 refine aF ?_
 rw[dH]
 unfold cK
 have h1:=H.h1
 have NX:=H.n1
 have ns:isSg 47=false:=rfl
 rw[ns,if_neg E6,if_neg (by
  rintro(z|⟨z1,z2⟩)
  ·lia
  ·have:=H.more (by lia);lia),if_pos rfl,if_pos (by lia)]
 congr 3
 lia
theorem sX{w n:Nat}{x l:List Nat}(hs:∀ c∈x,aG c)(hx:x.length<w)(hw:w<=8)(hn:n=0->x=[])(hl:∀ c l',l=c::l'->isSg c=false)(r:List Wt)(p:Nat):walk (.lin w 0 n::r) (x++l) p=some (p+x.length):=by
 rw[eN x 0 l p hs (by split<;>lia)]
 refine walk_bad (λz=>nomatch z) λc l' q=>?_
 rw[dH]
 unfold cK
 rw[hl c l' q,if_neg E6]
 refine if_pos ?_
 by_cases n0:n=0
 ·left;rw[hn n0];rfl
 ·right;exact⟨by lia,by lia⟩
def lstD(L:List (List Nat)):List D:=L.map λx=>D.str ⟨x.toArray⟩
def Bv:SpM:=λds M R RX=>∃ (a:Addr) (t:Str) (k:Nat) (l:List Nat),ds=[.ptr a]/\M=RdM a t k/\At t k l/\
 (∀ (L:List (List Nat)) (w:Nat) l',RowsL L w->l=rowsL L++l'->(∀ r,walk (.lin 0 0 0::r) l k=walk (.sign 59::r) l' (k+(rowsL L).length))->R (.lst (lstD L)) (RdM a t (k+(rowsL L).length)))/\
 (∀ j:Nat,(∀ r,walk (.lin 0 0 0::r) l k=some j)->∀ M',RX "WrongSign" [("place",.int j)] M')
def hmX(w h s:Int)(i j:Int):Int:=(i - j / h*s) % w
def hRow(w h s:Int)(j:Nat):Nat->List Nat->List ((Int × Int) × Int)->List ((Int × Int) × Int)
 |_,[],kv=>kv
 |i,c::r,kv=>hRow w h s j (i+1) r (if c=46 then kv else sdD kv (hmX w h s i j) ((j:Int) % h) ((c:Int) - 48))
def hAll(w h s:Int):Nat->List (List Nat)->List ((Int × Int) × Int)->List ((Int × Int) × Int)
 |_,[],kv=>kv
 |j,x::r,kv=>hAll w h s (j+1) r (hRow w h s j 0 x kv)
theorem sY(kv:List ((Int × Int) × Int))(x y v:Int):(sdD kv x y v).length<=kv.length+1:=by
 unfold sdD
 split
 ·lia
 ·rw[E2];simp
theorem Bw{c:Nat}(h:49<=c/\c<=54):∃ i rest,Builtin.Str.occurrences ".123456" ⟨#[c]⟩ 0 (".123456":Str).length 1=i::rest/\((i:Nat):Int)=(c:Int) - 48:=by
 rcases(by lia:c=49\/c=50\/c=51\/c=52\/c=53\/c=54) with e|e|e|e|e|e<;>subst e
 ·exact⟨1,[],by decide+kernel,by decide⟩
 ·exact⟨2,[],by decide+kernel,by decide⟩
 ·exact⟨3,[],by decide+kernel,by decide⟩
 ·exact⟨4,[],by decide+kernel,by decide⟩
 ·exact⟨5,[],by decide+kernel,by decide⟩
 ·exact⟨6,[],by decide+kernel,by decide⟩
theorem By{x:List Nat}(h:∀ c∈x,aG c):(⟨x.toArray⟩:Str).cps.all (·<128)=true:=by
 rw[<- HB,Gc]
 intro c hc
 have:=h c hc
 unfold aG at this
 simp
 lia
theorem Bz{L:List (List Nat)}{j:Nat}{d:D}(h:(lstD L)[j]?=some d):∃ x,L[j]?=some x/\d= .str ⟨x.toArray⟩:=by
 unfold lstD at h
 rw[E8] at h
 cases e:L[j]? with
 |none=>rw[e] at h;cases h
 |some x=>rw[e] at h;cases h;exact⟨x,rfl,rfl⟩
theorem BA{x:List Nat}{i:Nat}{d:D}(h:(bP ⟨x.toArray⟩)[i]?=some d):∃ c,x[i]?=some c/\d= .str ⟨#[c]⟩:=by
 unfold bP at h
 rw[E8] at h
 cases e:x[i]? with
 |none=>simp[e] at h
 |some c=>simp[e] at h;exact⟨c,rfl,h.symm⟩
theorem sZ{α:Type}{l:List α}{i:Nat}{x:α}(h:l[i]?=some x):l.drop i=x::l.drop (i+1):=by
 have hi:i<l.length:=(Fb.mp h).1
 rw[Gg hi]
 congr 1
 rw[Fj hi] at h
 exact Option.some.inj h
def BB:SpM:=λds M R RX=>∃ (L:List (List Nat)) (wd:Nat) (w h s:Int),ds=[.lst (lstD L),.tup [.int w,.int h,.int s]]/\RowsL L wd/\0<w/\0<h/\h<1073741824/\0<=s/\s<1073741824/\R (.dti (hAll w h s 0 L [])) M
def moF(k:Nat)(sh:D)(hu:List ((Int × Int) × Int)):List (Str × D):=[("place",.int k),("shifts",sh),("hues",.dti hu)]
def BC:SiD:=λds R=>∃ (k:Nat) (L:List (List Nat)) (wd:Nat) (a b c d:Int),ds=[.int k,.lst (lstD L),.tup [.int a,.int b],.tup [.int c,.int d]]/\RowsL L wd/\B12 a/\B12 b/\B12 c/\B12 d/\
 (a*d=b*c->R (moF k .non []))/\(¬ a*d=b*c->∀ w h s,FamOf a b c d w h s->R (moF k (.tup [.int w,.int h,.int s]) (hAll w h s 0 L [])))
theorem BD{v:D}:putD ("place":Str) v []=([("place",v)]:List (Str × D)):=rfl
theorem tf{u v:D}:putD ("shifts":Str) v [("place",u)]=([("place",u),("shifts",v)]:List (Str × D)):=by
 unfold putD
 rw[if_neg (by decide+kernel)]
 rfl
theorem tm{t u v:D}:putD ("hues":Str) v [("place",t),("shifts",u)]=([("place",t),("shifts",u),("hues",v)]:List (Str × D)):=by
 unfold putD
 rw[if_neg (by decide+kernel)]
 unfold putD
 rw[if_neg (by decide+kernel)]
 rfl
theorem kx{u v:D}:([("place",u),("shifts",v)]:List (Str × D)).lookup ("shifts":Str)=some v:=by
 rw[Fd,show(("shifts":Str)==("place":Str))=false by decide+kernel]
 rfl
def BE:SiD:=λds R=>∃ (x y:Str) (fs gs:List (Str × D)),ds=[.obj x fs,.obj y gs]/\R [("above",.obj x fs),("below",.obj y gs)]
def BF:SiD:=λds R=>∃ (x:Str) (fs:List (Str × D)) (a b:Int),ds=[.obj x fs,.int a,.int b]/\R [("form",.obj x fs),("x",.int a),("y",.int b)]
def BG:SiD:=λds R=>∃ (x:Str) (fs:List (Str × D)),ds=[.obj x fs]/\R [("form",.obj x fs)]
def BH:SiD:=λds R=>∃ (x:Str) (fs:List (Str × D)),ds=[.obj x fs]/\R [("form",.obj x fs)]
def BI:SiD:=λds R=>∃ (x:Str) (fs:List (Str × D)) (a b:Int),ds=[.obj x fs,.int a,.int b]/\R [("form",.obj x fs),("old",.int a),("new",.int b)]
def FormOf:Pat->Nat->D->Prop
 | .mot L a b c d,k,v=>∃ sh hu,v= .obj "Motif" (moF k sh hu)/\(a*d=b*c->sh= .non)/\(¬ a*d=b*c->∃ w h s,FamOf a b c d w h s/\sh= .tup [.int w,.int h,.int s]/\hu=hAll w h s 0 (L.map cs) [])
 | .over p q,k,v=>∃ u u',v= .obj "Over" [("above",u),("below",u')]/\FormOf p (k+1) u/\FormOf q (k+1+p.tl.length+1) u'
 | .sh a b p,k,v=>∃ u,v= .obj "Shifted" [("form",u),("x",.int a),("y",.int b)]/\FormOf p (k+1+(numL a).length+1+(numL b).length+1) u
 | .mir p,k,v=>∃ u,v= .obj "Mirror" [("form",u)]/\FormOf p (k+1) u
 | .tur p,k,v=>∃ u,v= .obj "Turn" [("form",u)]/\FormOf p (k+1) u
 | .hue f g p,k,v=>∃ u,v= .obj "Rehue" [("form",u),("old",.int f),("new",.int g)]/\FormOf p (k+3) u
def Pat.cls:Pat->Str
 | .mot ..=>"Motif"| .over ..=>"Over"| .sh ..=>"Shifted"| .mir ..=>"Mirror"| .tur ..=>"Turn"| .hue ..=>"Rehue"
theorem FormOf.obj{p:Pat}{k:Nat}{v:D}(h:FormOf p k v):∃ fs,v= .obj p.cls fs:=by
 cases p with
 |mot L a b c d=>obtain⟨sh,hu,rfl,_⟩:=h;exact⟨_,rfl⟩
 |over p q=>obtain⟨_,_,rfl,_⟩:=h;exact⟨_,rfl⟩
 |sh a b p=>obtain⟨_,rfl,_⟩:=h;exact⟨_,rfl⟩
 |mir p=>obtain⟨_,rfl,_⟩:=h;exact⟨_,rfl⟩
 |tur p=>obtain⟨_,rfl,_⟩:=h;exact⟨_,rfl⟩
 |hue f g p=>obtain⟨_,rfl,_⟩:=h;exact⟨_,rfl⟩
theorem BJ{L:List (List Nat)}{w:Nat}(h:RowsL L w):Rows (L.map λx=>(⟨x.toArray⟩:Str))/\(L.map λx=>(⟨x.toArray⟩:Str)).map cs=L:=by
 refine⟨⟨by rw[E1];exact h.many,w,⟨h.w1,h.w8⟩,λl hl=>?_⟩,?_⟩
 ·obtain⟨x,hx,rfl⟩:=Fq.mp hl
  obtain⟨h1,h2⟩:=h.each x hx
  exact⟨by rw[dN];exact h1,h2⟩
 ·rw[Gr]
  simp[Function.comp_def,cs]
def BK:SpM:=λds M R RX=>∃ (a:Addr) (t:Str) (k:Nat) (l:List Nat),ds=[.ptr a]/\M=RdM a t k/\At t k l/\
 (∀ p l',p.Syn->p.depth=0->l=p.tl++l'->∀ v,FormOf p k v->R v (RdM a t (k+p.tl.length)))/\
 (∀ j:Nat,(∀ r,walk (.pat 5::r) l k=some j)->∀ M',RX "WrongSign" [("place",.int j)] M')
theorem BL{d:Nat}{l:List Nat}{k:Nat}{r:List Wt}(h:d=5\/∀ c l',l=c::l'->c ∉ cs "(smth"):walk (.pat d::r) l k=walk (.pat 5::r) l k:=by
 rcases h with rfl|h
 ·rfl
 ·cases l with
  |nil=>simp[walk]
  |cons c l=>
   have hc:=h c l rfl
   have e:cs "(smth"=[40,115,109,116,104]:=rfl
   rw[e] at hc
   simp only[EU,FY,or_false,not_or] at hc
   have:step (.pat d::r) c=step (.pat 5::r) c:=by
    rw[bJ,bJ]
    unfold bI
    by_cases K_:c=91
    ·rw[if_pos K_,if_pos K_]
    ·rw[if_neg K_,if_neg K_,if_pos rfl]
     split
     ·rfl
     ·rw[if_neg hc.1,if_neg hc.2.1,if_neg hc.2.2.2.2,if_neg (by rintro(z|z);exact hc.2.2.1 z;exact hc.2.2.2.1 z)]
   rw[walk,walk,this]
theorem hue_dig{c:Nat}:c∈cs "123456"↔49<=c/\c<=54:=by
 have e:cs "123456"=[49,50,51,52,53,54]:=rfl
 rw[e];simp;lia
theorem gY{c:Nat}(h:49<=c/\c<=54):numL ((c:Int) - 48)=[c]:=by
 rw[hueL (by lia)]
 congr 1
 lia
theorem ky{c:Nat}(h:49<=c/\c<=54){r:List Wt}{l:List Nat}{k:Nat}:walk (.hue::r) (c::l) k=walk r l (k+1):=aF (by simp[step,aI,aK,h])
theorem tw{r:List Wt}{l:List Nat}{k:Nat}(h:∀ c l',l=c::l'->c ∉ cs "123456"):walk (.hue::r) l k=some k:=
 walk_bad (λz=>nomatch z) λc l' q=>by
  have:=λz=>h c l' q (hue_dig.mpr z)
  simp only[step,aI,aK]
  exact if_neg this
def dg(j:Nat):SpM:=λds M R RX=>∃ (a:Addr) (t:Str) (k:Nat) (l:List Nat) (d:Nat),ds=[.ptr a,.int d]/\M=RdM a t k/\At t k l/\d+j=6/\1<=j/\
 (∀ p l',p.Syn->p.depth+d<=5->l=p.tl++l'->∀ v,FormOf p k v->R v (RdM a t (k+p.tl.length)))/\(∀ i:Nat,(∀ r,walk (.pat d::r) l k=some i)->∀ M',RX "WrongSign" [("place",.int i)] M')
theorem BM{ds:List D}{M:MS}{R:D->MS->Prop}{RX:XDM}:¬ dg 0 ds M R RX:=by
 rintro⟨_,_,_,_,_,_,_,_,_,h,_⟩
 exact absurd h (by decide)
def tz(j:Nat):SpM:=λds M R RX=>∃ (a:Addr) (t:Str) (k:Nat) (l:List Nat) (d:Nat),ds=[.ptr a,.int d]/\M=RdM a t k/\At t k l/\d+j=6/\1<=j/\
 (∀ p q l',p.Syn->q.Syn->p.depth+d<=5->q.depth+d<=5->l=p.tl++124::(q.tl++41::l')->∀ u u',FormOf p k u->FormOf q (k+p.tl.length+1) u'->R (.obj "Over" [("above",u),("below",u')]) (RdM a t (k+p.tl.length+1+q.tl.length+1)))/\
 (∀ i:Nat,(∀ r,walk (.pat d:: .sign 124:: .pat d:: .sign 41::r) l k=some i)->∀ M',RX "WrongSign" [("place",.int i)] M')
def tD(j:Nat):SpM:=λds M R RX=>∃ (a:Addr) (t:Str) (k:Nat) (l:List Nat) (d:Nat),ds=[.ptr a,.int d]/\M=RdM a t k/\At t k l/\d+j=6/\1<=j/\
 (∀ x y p l',B12 x->B12 y->p.Syn->p.depth+d<=5->l=numL x++44::(numL y++58::(p.tl++l'))->∀ u,FormOf p (k+(numL x).length+1+(numL y).length+1) u->R (.obj "Shifted" [("form",u),("x",.int x),("y",.int y)]) (RdM a t (k+(numL x).length+1+(numL y).length+1+p.tl.length)))/\
 (∀ i:Nat,(∀ r,walk (.num:: .sign 44:: .num:: .sign 58:: .pat d::r) l k=some i)->∀ M',RX "WrongSign" [("place",.int i)] M')
def tE(j:Nat):SpM:=λds M R RX=>∃ (a:Addr) (t:Str) (k:Nat) (l:List Nat) (d:Nat),ds=[.ptr a,.int d]/\M=RdM a t k/\At t k l/\d+j=6/\1<=j/\
 (∀ c e p l',(49<=c/\c<=54)->(49<=e/\e<=54)->p.Syn->p.depth+d<=5->l=c::e::(p.tl++l')->∀ u,FormOf p (k+2) u->R (.obj "Rehue" [("form",u),("old",.int ((c:Int) - 48)),("new",.int ((e:Int) - 48))]) (RdM a t (k+2+p.tl.length)))/\
 (∀ i:Nat,(∀ r,walk (.hue:: .hue:: .pat d::r) l k=some i)->∀ M',RX "WrongSign" [("place",.int i)] M')
def Pat.Cal:Pat->Prop
 | .mot ..=>True
 | .over p q=>p.Cal/\q.Cal/\(p.Wf->q.Wf->p.Fits/\q.Fits)
 | .sh _ _ p=>p.Cal
 | .mir p=>p.Cal
 | .tur p=>p.Cal/\(p.Wf->p.Fits)
 | .hue _ _ p=>p.Cal
theorem Pat.cls_mem(p:Pat):p.cls∈(["Motif","Over","Shifted","Mirror","Turn","Rehue"]:List Str):=by
 cases p<;>simp[Pat.cls]
theorem no_look{f g:Str}{v:D}{r:List (Str × D)}(h:(f==g)=false)(hr:r.lookup f=none):(((g,v)::r:List (Str × D))).lookup f=none:=by
 rw[Fd,h];exact hr
theorem FormOf.objm{p:Pat}{k:Nat}{v:D}(h:FormOf p k v):∃ fs,v= .obj p.cls fs/\fs.lookup ("family":Str)=none/\fs.lookup ("shows":Str)=none:=by
 cases p with
 |mot L a b c d=>obtain⟨sh,hu,rfl,_⟩:=h;exact⟨_,rfl,no_look (by decide+kernel) (no_look (by decide+kernel) (no_look (by decide+kernel) rfl)),no_look (by decide+kernel) (no_look (by decide+kernel) (no_look (by decide+kernel) rfl))⟩
 |over p q=>obtain⟨_,_,rfl,_⟩:=h;exact⟨_,rfl,no_look (by decide+kernel) (no_look (by decide+kernel) rfl),no_look (by decide+kernel) (no_look (by decide+kernel) rfl)⟩
 |sh a b p=>obtain⟨_,rfl,_⟩:=h;exact⟨_,rfl,no_look (by decide+kernel) (no_look (by decide+kernel) (no_look (by decide+kernel) rfl)),no_look (by decide+kernel) (no_look (by decide+kernel) (no_look (by decide+kernel) rfl))⟩
 |mir p=>obtain⟨_,rfl,_⟩:=h;exact⟨_,rfl,no_look (by decide+kernel) rfl,no_look (by decide+kernel) rfl⟩
 |tur p=>obtain⟨_,rfl,_⟩:=h;exact⟨_,rfl,no_look (by decide+kernel) rfl,no_look (by decide+kernel) rfl⟩
 |hue f g p=>obtain⟨_,rfl,_⟩:=h;exact⟨_,rfl,no_look (by decide+kernel) (no_look (by decide+kernel) (no_look (by decide+kernel) rfl)),no_look (by decide+kernel) (no_look (by decide+kernel) (no_look (by decide+kernel) rfl))⟩
theorem kz{k:Nat}{sh:D}{hu:List ((Int × Int) × Int)}:(moF k sh hu).lookup ("shifts":Str)=some sh:=by
 unfold moF
 rw[Fd,show(("shifts":Str)==("place":Str))=false by decide+kernel]
 rfl
theorem BN{k:Nat}{sh:D}{hu:List ((Int × Int) × Int)}:(moF k sh hu).lookup ("place":Str)=some (.int k):=rfl
theorem BO{k:Nat}{sh:D}{hu:List ((Int × Int) × Int)}:(moF k sh hu).lookup ("hues":Str)=some (.dti hu):=by
 unfold moF
 rw[Fd,show(("hues":Str)==("place":Str))=false by decide+kernel,Fd,show(("hues":Str)==("shifts":Str))=false by decide+kernel]
 rfl
theorem eX{f g:Str}{u v:D}{r:List (Str × D)}(h:(g==f)=false):(((f,u)::(g,v)::r:List (Str × D))).lookup g=some v:=by
 rw[Fd,h,Fd,beq_self_eq_true]
theorem kA{e f g:Str}{t u v:D}{r:List (Str × D)}(h1:(g==e)=false)(h2:(g==f)=false):(((e,t)::(f,u)::(g,v)::r:List (Str × D))).lookup g=some v:=by
 rw[Fd,h1];exact eX h2
theorem Pat.Fits.small{p:Pat}(h:p.Fits){w k s:Int}(f:p.Fam w k s):0<w/\w<=720/\0<k/\k<=720/\0<=s/\s<w:=by
 obtain⟨w',k',s',f',hb⟩:=h
 obtain⟨rfl,rfl,rfl⟩:=f.uniq f'
 obtain⟨h1,h2⟩:=cU f.f.w0 f.f.h0
 exact⟨f.f.w0,by lia,f.f.h0,by lia,f.f.s0,f.f.sw⟩
def bM(j:Nat)(x:Str):SpX:=λds R RX=>∃ (p:Pat) (k:Nat) (v:D),ds=[v]/\FormOf p k v/\p.Syn/\p.depth<j/\p.cls=x/\p.Cal/\(∀ i:Nat,p.lineAt k=some i->RX "OneLine" [("place",.int i)])/\(p.lineAt k=none->∀ w h s,p.Fam w h s->R (.tup [.int w,.int h,.int s]))
theorem eY{x:Str}{ds:List D}{M:MS}{R:D->MS->Prop}{RX:XDM}:¬ ofX (bM 0 x) ds M R RX:=by
 rintro⟨_,_,_,_,_,_,h,_⟩
 exact absurd h (Hf _)
theorem lookD_app(x y v X Y:Int):∀ kv:List ((Int × Int) × Int),lookD (kv++[((x,y),v)]) X Y=match lookD kv X Y with|some u=>some u|none=>if x=X/\y=Y then some v else none
 |[]=>rfl
 |((a,b),h)::r=>by
  show lookD (((a,b),h)::(r++[((x,y),v)])) X Y=_
  unfold lookD
  by_cases e:a=X/\b=Y
  ·rw[if_pos e,if_pos e]
  ·rw[if_neg e,if_neg e];exact lookD_app x y v X Y r
theorem BP(kv:List ((Int × Int) × Int))(x y v X Y:Int):lookD (sdD kv x y v) X Y=match lookD kv X Y with|some u=>some u|none=>if x=X/\y=Y then some v else none:=by
 unfold sdD
 split
 ·rename_i hs
  cases e:lookD kv X Y with
  |some u=>rfl
  |none=>
   show none=_
   rw[if_neg]
   rintro⟨rfl,rfl⟩
   rw[e] at hs
   cases hs
 ·exact lookD_app x y v X Y kv
theorem look_row(w h s:Int)(j:Nat)(X Y:Int):∀ (x:List Nat) (i:Nat) (kv:List ((Int × Int) × Int)),lookD (hRow w h s j i x kv) X Y=match lookD kv X Y with|some u=>some u|none=>(scanRow (λi=>decide (hmX w h s i j=X/\(j:Int) % h=Y)) i x).map λc=>(c:Int) - 48
 |[],i,kv=>by
  rw[hRow,scanRow]
  cases lookD kv X Y<;>rfl
 |c::r,i,kv=>by
  rw[hRow,look_row w h s j X Y r (i+1),scanRow]
  by_cases t9:c=46
  ·rw[if_pos t9,if_neg (c:=c≠46/\_) (λz=>z.1 t9)]
  ·rw[if_neg t9,BP]
   cases lookD kv X Y with
   |some u=>rfl
   |none=>
    by_cases e:hmX w h s i j=X/\(j:Int) % h=Y
    ·rw[if_pos (c:=c≠46/\_) ⟨t9,decide_eq_true e⟩]
     show(match (if hmX w h s i j=X/\(j:Int) % h=Y then some ((c:Int) - 48) else none) with|some u=>some u|none=>_)=_
     rw[if_pos e];rfl
    ·rw[if_neg (c:=c≠46/\_) (λz=>e (of_decide_eq_true z.2))]
     show(match (if hmX w h s i j=X/\(j:Int) % h=Y then some ((c:Int) - 48) else none) with|some u=>some u|none=>_)=_
     rw[if_neg e]
theorem tF(w h s X Y:Int):∀ (L:List Str) (j:Nat) (kv:List ((Int × Int) × Int)),lookD (hAll w h s j (L.map cs) kv) X Y=match lookD kv X Y with|some u=>some u|none=>(bG (λi j=>decide (hmX w h s i j=X/\j % h=Y)) j L).map λc=>(c:Int) - 48
 |[],j,kv=>by
  rw[FX,hAll,bG]
  cases lookD kv X Y<;>rfl
 |x::r,j,kv=>by
  rw[E9,hAll,tF w h s X Y r (j+1),look_row,bG]
  cases lookD kv X Y with
  |some u=>rfl
  |none=>
   show(match (scanRow (λi=>decide (hmX w h s i j=X/\(j:Int) % h=Y)) 0 (cs x)).map (λc=>(c:Int) - 48) with|some u=>some u|none=>_)=_
   cases scanRow (λi=>decide (hmX w h s i j=X/\(j:Int) % h=Y)) 0 (cs x)<;>rfl
theorem BQ{a b c d w h s:Int}(F:FamOf a b c d w h s)(hn:¬ a*d=b*c)(x y i j:Int):decide (hmX w h s i j=hmX w h s x y/\j % h=y % h)=onB a b c d (x - i) (y - j):=by
 have hw:=F.1
 have hh:=F.2.1
 have key:(hmX w h s i j=hmX w h s x y/\j % h=y % h)↔InF w h s (x - i) (y - j):=by
  unfold hmX
  constructor
  ·rintro⟨e1,e2⟩
   have dy:=Gf y h
   have dj:=Gf j h
   have m1:=Gf (x - y / h*s) w
   have m2:=Gf (i - j / h*s) w
   refine⟨(x - y / h*s) / w - (i - j / h*s) / w,y / h - j / h,?_,?_⟩
   ·rw[GM,GM,Fe ((x - y / h*s) / w) w,Fe ((i - j / h*s) / w) w]
    lia
   ·rw[GM,Fe (y / h) h,Fe (j / h) h]
    lia
  ·rintro⟨m,q,ex,ey⟩
   have Po:y=j+q*h:=by lia
   have JP:x=i+(m*w+q*s):=by lia
   subst JP Po
   rw[HR,HS _ _ (by lia)]
   refine⟨?_,rfl⟩
   have e:i+(m*w+q*s) - (j / h+q)*s=i - j / h*s+m*w:=by rw[GN];lia
   rw[e,HR]
 unfold onB
 congr 1
 apply propext
 rw[key,F.lat]
 constructor
 ·rintro⟨m,q,eu,ev⟩
  exact si eu ev
 ·exact λz=>sJ hn z
theorem BR{c:Nat}(h:49<=c/\c<=54):cell [0,1,2,3,4,5,6] ((c:Int) - 48)=(c:Int) - 48:=by
 rcases(by lia:c=49\/c=50\/c=51\/c=52\/c=53\/c=54) with e|e|e|e|e|e<;>subst e<;>rfl
theorem motif_shows{L:List Str}{a b c d w h s:Int}(hL:Rows L)(F:FamOf a b c d w h s)(hn:¬ a*d=b*c)(x y:Int):(lookD (hAll w h s 0 (L.map cs) []) (hmX w h s x y) (y % h)).getD 0=(bp L a b c d).shows x y:=by
 rw[tF]
 show((bG (λi j=>decide (hmX w h s i j=hmX w h s x y/\j % h=y % h)) 0 L).map λc=>(c:Int) - 48).getD 0=_
 have e:(λi j=>decide (hmX w h s i j=hmX w h s x y/\j % h=y % h))=λi j=>onB a b c d (1*x+0*y+0 - i) (0*x+1*y+0 - j):=by
  funext i j
  rw[BQ F hn]
  congr 1<;>lia
 rw[e]
 show _=match bG (λi j=>onB a b c d (1*x+0*y+0 - i) (0*x+1*y+0 - j)) 0 L with|some c=>cell [0,1,2,3,4,5,6] ((c:Int) - 48)|none=>0
 cases q:bG (λi j=>onB a b c d (1*x+0*y+0 - i) (0*x+1*y+0 - j)) 0 L with
 |none=>rfl
 |some c=>
  have hc:49<=c/\c<=54:=kj (λl' q=>let ⟨_,_,_,h⟩:=hL;(h l' q).2) q
  exact(BR hc).symm
def bN(j:Nat)(x:Str):SpX:=λds R RX=>∃ (p:Pat) (k:Nat) (v:D) (X Y:Int),ds=[v,.int X,.int Y]/\FormOf p k v/\p.Wf/\p.depth<j/\p.cls=x/\R (.int (p.show X Y))
theorem eZ{x:Str}{ds:List D}{M:MS}{R:D->MS->Prop}{RX:XDM}:¬ ofX (bN 0 x) ds M R RX:=by
 rintro⟨_,_,_,_,_,_,_,_,h,_⟩
 exact absurd h (Hf _)
structure PatOf(p:Pat)(w h s:Int)(fs:List (Str × D)):Prop extends Pat.Fam p w h s where
 form:∃ k v,fs.lookup ("form":Str)=some v/\FormOf p k v
def bv(p:Pat)(d:D):Prop:=∃ w h s fs,d= .obj "Pattern" fs/\fs.lookup ("text":Str)=some (.str p.text)/\fs.lookup ("shifts":Str)=some (.tup [.int w,.int h,.int s])/\PatOf p w h s fs
def aC(x:Int):Prop:=-1000000000000<=x/\x<=1000000000000
theorem Pat.show_le{p:Pat}(h:p.Wf)(hd:p.depth<=40)(x y:Int):0<=p.show x y/\p.show x y<=6:=by
 rw[<- Pat.show_leaves h hd]
 exact sC x y (Pat.leaf_ok h hd)
def aY(h:Int):Nat:=if h=0 then 46 else(48+h).toNat
def ay(p:Pat)(x y:Int)(n:Nat):Str:=⟨((ET n).map λ(k:Nat)=>aY (p.show (x+(k:Int)) y)).toArray⟩
theorem gZ(p:Pat)(x y:Int)(n:Nat):(ay p x y n).length=n:=by simp[ay,Str.length]
theorem kB{h:Int}(h0:0<=h)(h6:h<=6):atI (cs ".123456") h=some (aY h):=by
 rcases(by lia:h=0\/h=1\/h=2\/h=3\/h=4\/h=5\/h=6) with e|e|e|e|e|e|e<;>subst e<;>decide+kernel
theorem range2_int{i j:Int}{k:Nat}{x:D}(h:((ET (j - i).toNat).map λk=>D.int (i+((k:Nat):Int)))[k]?=some x):k<(j - i).toNat/\x= .int (i+(k:Int)):=by
 have hk:k<(j - i).toNat:=by simpa using(Fb.mp h).1
 refine⟨hk,?_⟩
 simp[hk] at h
 exact h.symm
theorem Pat.Fits.over_parts{p q:Pat}(hp:p.Wf)(hq:q.Wf)(h:(Pat.over p q).Fits):p.Fits/\q.Fits:=by
 obtain⟨w,k,s,f,hb⟩:=h
 obtain⟨w1,k1,s1,f1⟩:=Pat.fam_ex hp
 obtain⟨w2,k2,s2,f2⟩:=Pat.fam_ex hq
 have l1:=(InF.le f1.f.w0 f1.f.h0 f.f.w0 f.f.h0 (λx y z=>(f1.lat x y).mpr ((f.lat x y).mp z).1)).1
 have l2:=(InF.le f2.f.w0 f2.f.h0 f.f.w0 f.f.h0 (λx y z=>(f2.lat x y).mpr ((f.lat x y).mp z).2)).1
 exact⟨⟨w1,k1,s1,f1,by lia⟩,⟨w2,k2,s2,f2,by lia⟩⟩
theorem Pat.Fits.of_sh{a b:Int}{p:Pat}(h:(Pat.sh a b p).Fits):p.Fits:=by
 obtain⟨w,k,s,f,hb⟩:=h
 exact⟨w,k,s,⟨f.f,f.lat⟩,hb⟩
theorem Pat.Fits.of_hue{a b:Int}{p:Pat}(h:(Pat.hue a b p).Fits):p.Fits:=by
 obtain⟨w,k,s,f,hb⟩:=h
 exact⟨w,k,s,⟨f.f,f.lat⟩,hb⟩
theorem Pat.Fits.of_mir{p:Pat}(hp:p.Wf)(h:(Pat.mir p).Fits):p.Fits:=by
 obtain⟨w,k,s,f,hb⟩:=h
 obtain⟨w1,k1,s1,f1⟩:=Pat.fam_ex hp
 obtain⟨rfl,rfl,_⟩:=f.uniq f1.mir
 exact⟨_,_,_,f1,hb⟩
theorem Pat.Fits.of_tur{p:Pat}(hp:p.Wf)(h:(Pat.tur p).Fits):p.Fits:=by
 obtain⟨w,k,s,f,hb⟩:=h
 obtain⟨w1,k1,s1,f1⟩:=Pat.fam_ex hp
 obtain⟨w',k',s',f',e⟩:=gU (s:=s1) f1.f.w0 f1.f.h0
 obtain⟨rfl,rfl,_⟩:=f.uniq (f1.tur f')
 exact⟨_,_,_,f1,by lia⟩
theorem Pat.cal_of:∀ {p:Pat},p.Wf->p.Fits->p.Cal
 | .mot ..,_,_=>trivial
 | .over p q,h,f=>by
  obtain⟨f1,f2⟩:=Pat.Fits.over_parts h.1 h.2 f
  exact⟨Pat.cal_of h.1 f1,Pat.cal_of h.2 f2,λ_ _=>⟨f1,f2⟩⟩
 | .sh a b p,h,f=>Pat.cal_of (p:=p) h.2.2 f.of_sh
 | .mir p,h,f=>Pat.cal_of (p:=p) h (f.of_mir h)
 | .tur p,h,f=>⟨Pat.cal_of (p:=p) h (f.of_tur h),λ_=>f.of_tur h⟩
 | .hue a b p,h,f=>Pat.cal_of (p:=p) h.2.2 f.of_hue
theorem Pat.cal_w:∀ {p:Pat} {w h s:Int},p.Wf->p.Cal->p.Fam w h s->w<=518400
 | .mot L a b c d,w,h,s,e8,_,f=>by
  have:=(Pat.fits_mot (L:=L) e8.2.1 e8.2.2.1 e8.2.2.2.1 e8.2.2.2.2.1 e8.2.2.2.2.2).small f
  lia
 | .over p q,w,h,s,e8,hc,f=>by
  obtain⟨f1,f2⟩:=hc.2.2 e8.1 e8.2
  obtain⟨w1,k1,s1,g1⟩:=Pat.fam_ex e8.1
  obtain⟨w2,k2,s2,g2⟩:=Pat.fam_ex e8.2
  have a1:=f1.small g1
  have a2:=f2.small g2
  have pc:InF w h s (w1*w2) 0:=(f.lat _ _).mpr ⟨(g1.lat _ _).mp ⟨w2,0,by rw[Fe];lia,by lia⟩,(g2.lat _ _).mp ⟨w1,0,by lia,by lia⟩⟩
  obtain⟨i,j,e1,e2⟩:=pc
  have hj:j=0:=by
   rcases Gs.mp e2.symm with z|z
   ·exact z
   ·have:=f.f.h0;lia
  subst hj
  have hp:0<w1*w2:=Fc a1.1 a2.1
  have e3:w1*w2=i*w:=by lia
  have hi:0<i:=by
   have:=f.f.w0
   rcases(by lia:i<=0\/0<i) with z|z
   ·have:=FM z (show 0<=w by lia)
    lia
   ·exact z
  have h1:=Fg (show 1<=i by lia) (show 0<=w by have:=f.f.w0;lia)
  have h2:=bx (a:=w1) (d:=w2) (A:=720) (B:=720) (by lia) (by lia)
  lia
 | .sh a b p,w,h,s,e8,hc,f=>Pat.cal_w (p:=p) e8.2.2 hc ⟨f.f,f.lat⟩
 | .mir p,w,h,s,e8,hc,f=>by
  obtain⟨w1,k1,s1,f1⟩:=Pat.fam_ex (p:=p) e8
  obtain⟨rfl,_,_⟩:=f.uniq f1.mir
  exact Pat.cal_w (p:=p) e8 hc f1
 | .tur p,w,h,s,e8,hc,f=>by
  have:=(Pat.Fits.tur (hc.2 e8)).small f
  lia
 | .hue a b p,w,h,s,e8,hc,f=>Pat.cal_w (p:=p) e8.2.2 hc ⟨f.f,f.lat⟩
theorem tG:∀ L:List Str,cs (Str.join "" L)=L.flatMap cs
 |[]=>rfl
 |[x]=>by simp[Str.join]
 |x::y::r=>by
  show cs (x++""++Str.join "" (y::r))=_
  rw[bF,bF,tG (y::r),sy]
  simp
theorem BS(f:Nat->Nat)(n:Nat):Str.join "" ((ET n).map λi=>(⟨#[f i]⟩:Str))=⟨((ET n).map f).toArray⟩:=by
 apply eO
 rw[tG,List.flatMap_map]
 show(ET n).flatMap (λi=>[f i])=(ET n).map f
 rw[List.map_eq_flatMap]
theorem cN{e:Nat}:∀ {a b x y:List Nat},e ∉ a->e ∉ b->a++e::x=b++e::y->a=b/\x=y
 |[],[],x,y,_,_,h=>by cases h;exact⟨rfl,rfl⟩
 |[],c::b,x,y,_,hb,h=>by
  cases h
  exact absurd EY hb
 |c::a,[],x,y,ha,_,h=>by
  cases h
  exact absurd EY ha
 |c::a,d::b,x,y,ha,hb,h=>by
  have h':c::(a++e::x)=d::(b++e::y):=h
  injection h' with h1 h2
  obtain⟨e1,e2⟩:=cN (λz=>ha (EV _ z)) (λz=>hb (EV _ z)) h2
  exact⟨by rw[h1,e1],e2⟩
theorem fb{a b:Int}(ha:B12 a)(hb:B12 b)(h:numL a=numL b):a=b:=by
 have h1:=kr ha
 rw[h,kr hb] at h1
 exact(Option.some.inj h1).symm
theorem BT{a:Int}(ha:B12 a):∀ c∈numL a,c=45\/(48<=c/\c<=57):=by
 rcases numL_is ha with⟨c,hc,e⟩|⟨c,hc,e⟩|⟨c,hc,e⟩|⟨c,hc,e⟩<;>rw[e]<;>simp<;>lia
theorem ce{a:Int}(ha:B12 a){e:Nat}(he:endS e):e ∉ numL a:=λz=>by
 have:=BT ha e z
 unfold endS at he
 lia
theorem rowsL_chars:∀ {L:List (List Nat)},(∀ x∈L,∀ c∈x,aG c)->∀ c∈rowsL L,aG c\/c=47
 |[],_,c,h=>by cases h
 |[x],hx,c,h=> .inl (hx x EY c h)
 |x::y::L,hx,c,h=>by
  have h':c∈x++47::rowsL (y::L):=h
  rcases Fk.mp h' with z|z
  ·exact .inl (hx x EY c z)
  ·rcases EU.mp z with z|z
   ·exact .inr z
   ·exact rowsL_chars (λx q=>hx x (EV _ q)) c z
theorem fM{c:Nat}(h:aG c):c≠47/\c≠59:=by unfold aG at h;lia
theorem tH:∀ {L M:List (List Nat)},L≠[]->M≠[]->(∀ x∈L,∀ c∈x,aG c)->(∀ x∈M,∀ c∈x,aG c)->rowsL L=rowsL M->L=M
 |[],_,h,_,_,_,_=>absurd rfl h
 |_,[],_,h,_,_,_=>absurd rfl h
 |[x],[y],_,_,_,_,h=>by rw[show x=y from h]
 |[x],y::z::M,_,_,hx,_,h=>by
  have h':x=y++47::rowsL (z::M):=h
  have:(47:Nat)∈x:=by rw[h'];simp
  exact absurd rfl (fM (hx x EY 47 this)).1
 |x::z::L,[y],_,_,_,hy,h=>by
  have h':x++47::rowsL (z::L)=y:=h
  have:(47:Nat)∈y:=by rw[<- h'];simp
  exact absurd rfl (fM (hy y EY 47 this)).1
 |x::z::L,y::z'::M,_,_,hx,hy,h=>by
  have h':x++47::rowsL (z::L)=y++47::rowsL (z'::M):=h
  obtain⟨e1,e2⟩:=cN (λq=>(fM (hx x EY 47 q)).1 rfl) (λq=>(fM (hy y EY 47 q)).1 rfl) h'
  rw[e1,tH (L:=z::L) (M:=z'::M) (λq=>nomatch q) (λq=>nomatch q) (λx q=>hx x (EV _ q)) (λx q=>hy x (EV _ q)) e2]
theorem tI:∀ {L M:List Str},L.map cs=M.map cs->L=M
 |[],[],_=>rfl
 |[],_::_,h=>by cases h
 |_::_,[],h=>by cases h
 |x::L,y::M,h=>by
  rw[E9,E9] at h
  injection h with h1 h2
  rw[eO h1,tI h2]
theorem BU{L L':List Str}{a b c d a' b' c' d':Int}{x y:List Nat}(h:(Pat.mot L a b c d).Syn)(h':(Pat.mot L' a' b' c' d').Syn)(e:(Pat.mot L a b c d).tl++x=(Pat.mot L' a' b' c' d').tl++y):Pat.mot L a b c d=Pat.mot L' a' b' c' d'/\x=y:=by
 have e0:91::(rowsL (L.map cs)++59::(numL a++44::(numL b++59::(numL c++44::(numL d++93::x)))))=91::(rowsL (L'.map cs)++59::(numL a'++44::(numL b'++59::(numL c'++44::(numL d'++93::y))))):=by
  simpa[Pat.tl,motL] using e
 injection e0 with _ e1
 have sg:∀ {L:List Str},Rows L->∀ x∈L.map cs,∀ c∈x,aG c:=λ{L} hL x hx=>by
  obtain⟨l,hl,rfl⟩:=Fq.mp hx
  obtain⟨_,w,_,q⟩:=hL
  exact(q l hl).2
 have NZ:∀ {L:List Str},Rows L->(59:Nat) ∉ rowsL (L.map cs):=λ{L} hL z=>by
  rcases rowsL_chars (sg hL) 59 z with q|q
  ·exact(fM q).2 rfl
  ·cases q
 have ne:∀ {L:List Str},Rows L->L.map cs≠[]:=λ{L} hL z=>by
  have h1:=hL.many.1
  have h2:=congrArg Gi z
  rw[E1] at h2
  simp at h2
  rw[h2] at h1
  simp at h1
 obtain⟨q1,e2⟩:=cN (NZ h.1) (NZ h'.1) e1
 obtain⟨q2,e3⟩:=cN (ce h.2.1 (.inl rfl)) (ce h'.2.1 (.inl rfl)) e2
 obtain⟨q3,e4⟩:=cN (ce h.2.2.1 (.inr (.inl rfl))) (ce h'.2.2.1 (.inr (.inl rfl))) e3
 obtain⟨q4,e5⟩:=cN (ce h.2.2.2.1 (.inl rfl)) (ce h'.2.2.2.1 (.inl rfl)) e4
 obtain⟨q5,e6⟩:=cN (ce h.2.2.2.2 (.inr (.inr (.inr rfl)))) (ce h'.2.2.2.2 (.inr (.inr (.inr rfl)))) e5
 rw[tI (tH (ne h.1) (ne h'.1) (sg h.1) (sg h'.1) q1),fb h.2.1 h'.2.1 q2,fb h.2.2.1 h'.2.2.1 q3,fb h.2.2.2.1 h'.2.2.2.1 q4,fb h.2.2.2.2 h'.2.2.2.2 q5]
 exact⟨rfl,e6⟩
def Pat.head:Pat->Nat
 | .mot ..=>91| .over ..=>40| .sh ..=>115| .mir ..=>109| .tur ..=>116| .hue ..=>104
theorem Pat.tl_head(p:Pat):∃ l,p.tl=p.head::l:=by cases p<;>exact⟨_,rfl⟩
theorem dO{p q:Pat}{x y:List Nat}(e:p.tl++x=q.tl++y):p.head=q.head:=by
 obtain⟨l1,e1⟩:=p.tl_head
 obtain⟨l2,e2⟩:=q.tl_head
 rw[e1,e2] at e
 have e':p.head::(l1++x)=q.head::(l2++y):=e
 injection e'
theorem tJ{f g:Int}(h:1<=f/\f<=6)(h':1<=g/\g<=6)(e:(48+f).toNat=(48+g).toNat):f=g:=by lia
theorem BV{p q:Pat}{x y:List Nat}(hp:p.Syn)(hq:q.Syn)(e:p.tl++x=q.tl++y):p=q/\x=y:=by
 have hh:=dO e
 induction p generalizing q x y with
 |mot=>
  cases q with
  |mot=>exact BU hp hq e
  |_=>simp[Pat.head] at hh
 |over p q i1 i2=>
  cases q with
  |over p' q'=>
   have e0:40::(p.tl++124::(q.tl++41::x))=40::(p'.tl++124::(q'.tl++41::y)):=by simpa[Pat.tl] using e
   injection e0 with _ e1
   obtain⟨rfl,e2⟩:=i1 hp.1 hq.1 e1 (dO e1)
   injection e2 with _ e3
   obtain⟨rfl,e4⟩:=i2 hp.2 hq.2 e3 (dO e3)
   injection e4 with _ e5
   exact⟨rfl,e5⟩
  |_=>simp[Pat.head] at hh
 |sh a b p i=>
  cases q with
  |sh a' b' p'=>
   have e0:115::(numL a++44::(numL b++58::(p.tl++x)))=115::(numL a'++44::(numL b'++58::(p'.tl++y))):=by simpa[Pat.tl] using e
   injection e0 with _ e1
   obtain⟨q2,e3⟩:=cN (ce hp.1 (.inl rfl)) (ce hq.1 (.inl rfl)) e1
   obtain⟨q3,e4⟩:=cN (ce hp.2.1 (.inr (.inr (.inl rfl)))) (ce hq.2.1 (.inr (.inr (.inl rfl)))) e3
   obtain⟨rfl,e5⟩:=i hp.2.2 hq.2.2 e4 (dO e4)
   rw[fb hp.1 hq.1 q2,fb hp.2.1 hq.2.1 q3]
   exact⟨rfl,e5⟩
  |_=>simp[Pat.head] at hh
 |mir p i=>
  cases q with
  |mir p'=>
   have e0:109::(p.tl++x)=109::(p'.tl++y):=e
   injection e0 with _ e1
   obtain⟨rfl,e5⟩:=i (q:=p') hp hq e1 (dO e1)
   exact⟨rfl,e5⟩
  |_=>simp[Pat.head] at hh
 |tur p i=>
  cases q with
  |tur p'=>
   have e0:116::(p.tl++x)=116::(p'.tl++y):=e
   injection e0 with _ e1
   obtain⟨rfl,e5⟩:=i (q:=p') hp hq e1 (dO e1)
   exact⟨rfl,e5⟩
  |_=>simp[Pat.head] at hh
 |hue f g p i=>
  cases q with
  |hue f' g' p'=>
   have e0:104::(numL f++(numL g++(p.tl++x)))=104::(numL f'++(numL g'++(p'.tl++y))):=by simpa[Pat.tl] using e
   rw[hueL hp.1,hueL hp.2.1,hueL hq.1,hueL hq.2.1] at e0
   have e1:104::(48+f).toNat::(48+g).toNat::(p.tl++x)=104::(48+f').toNat::(48+g').toNat::(p'.tl++y):=e0
   injection e1 with _ e2
   injection e2 with e3 e4
   injection e4 with e5 e6
   obtain⟨rfl,e7⟩:=i hp.2.2 hq.2.2 e6 (dO e6)
   rw[tJ hp.1 hq.1 e3,tJ hp.2.1 hq.2.1 e5]
   exact⟨rfl,e7⟩
  |_=>simp[Pat.head] at hh
def BW:SiD:=λds R=>∃ (t:Str) (w h s:Int) (x:Str) (fs:List (Str × D)),ds=[.str t,.tup [.int w,.int h,.int s],.obj x fs]/\R [("text",.str t),("shifts",.tup [.int w,.int h,.int s]),("form",.obj x fs)]
def BX:SiD:=λds R=>∃ i:Int,ds=[.int i]/\R [("place",.int i)]
def BY:SiD:=λds R=>∃ i:Int,ds=[.int i]/\R [("place",.int i)]
def tK:SpX:=λds R RX=>(∃ (t:Str) (k:Nat),ds=[.str t]/\t.length<=100000/\cY t=some k/\RX "WrongSign" [("place",.int k)])\/
 ∃ p:Pat,ds=[.str p.text]/\p.Syn/\p.depth<=5/\p.Cal/\(∀ k:Nat,p.lineAt 0=some k->RX "OneLine" [("place",.int k)])/\(p.lineAt 0=none->¬ p.Fits->RX "TooGreat" [])/\(p.lineAt 0=none->p.Fits->∀ d,bv p d->R d)
theorem BZ{p:Pat}{R:D->Prop}(ok:p.Ok)(h:∀ d,bv p d->R d):gH tK [.str p.text] R:=
 .inr ⟨p,rfl,ok.wf.syn,ok.deep,Pat.cal_of ok.wf ok.fits,(λk e=>by rw[Pat.wf_line 0 ok.wf] at e;cases e),λ_ z=>z ok.fits,λ_ _=>h⟩
def B0:SpX:=λds R RX=>∃ x y:Int,ds=[.int x,.int y]/\(aC x/\aC y->R .non)/\(¬ (aC x/\aC y)->RX "TooFar" [])
def tL:SpX:=λds R RX=>∃ (p:Pat) (d:D) (x y:Int),ds=[d,.int x,.int y]/\bv p d/\p.Ok/\(aC x/\aC y->R (.int (p.show x y)))/\(¬ (aC x/\aC y)->RX "TooFar" [])
theorem tM{p:Pat}{d:D}{x y:Int}{R:D->Prop}(hd:bv p d)(ok:p.Ok)(hx:aC x)(hy:aC y)(h:R (.int (p.show x y))):gH tL [d,.int x,.int y] R:=
 ⟨p,d,x,y,rfl,hd,ok,λ_=>h,λz=>z ⟨hx,hy⟩⟩
def B1:SpD:=λds R=>∃ (p:Pat) (d:D) (x y:Int) (n:Nat),ds=[d,.int x,.int y,.int n]/\bv p d/\p.Ok/\n<=1000/\aC x/\aC (x+n - 1)/\aC y/\R (.str (ay p x y n))
theorem B2{x n:Int}:x.fmod n=0↔n∣x:=⟨Int.dvd_of_fmod_eq_zero,G5⟩
theorem B3(a b c d u v i j:Int):onB a b c d (u+(i*a+j*c)) (v+(i*b+j*d))=onB a b c d u v:=by
 unfold onB
 have e1:(u+(i*a+j*c))*d - (v+(i*b+j*d))*c=(u*d - v*c)+(a*d - b*c)*i:=by grind
 have e2:a*(v+(i*b+j*d)) - b*(u+(i*a+j*c))=(a*v - b*u)+(a*d - b*c)*j:=by grind
 rw[e1,e2]
 simp only[B2]
 have h1:(a*d - b*c∣u*d - v*c+(a*d - b*c)*i)↔a*d - b*c∣u*d - v*c:=HU (HV _ _)
 have h2:(a*d - b*c∣a*v - b*u+(a*d - b*c)*j)↔a*d - b*c∣a*v - b*u:=HU (HV _ _)
 simp only[h1,h2]
def Pat.Keeps(p:Pat)(X Y:Int):Prop:=∀ x y,p.show (x+X) (y+Y)=p.show x y
theorem Pat.lat_keeps:∀ {p:Pat} {X Y:Int},p.Lat X Y->p.Keeps X Y
 | .mot L a b c d,_,_,⟨i,j,rfl,rfl⟩,x,y=>by
  have e:∀ u v:Int,onB a b c d (1*(x+(i*a+j*c))+0*(y+(i*b+j*d))+0 - u) (0*(x+(i*a+j*c))+1*(y+(i*b+j*d))+0 - v)=onB a b c d (1*x+0*y+0 - u) (0*x+1*y+0 - v):=λu v=>by
   rw[<- B3 a b c d (1*x+0*y+0 - u) (0*x+1*y+0 - v) i j]
   congr 1<;>lia
  show Leaf.shows _ _ _=Leaf.shows _ _ _
  unfold Leaf.shows Leaf.hit
  simp only[bp,e]
 | .over p q,X,Y,h,x,y=>by
  simp only[Pat.show]
  rw[Pat.lat_keeps h.1 x y,Pat.lat_keeps h.2 x y]
 | .sh a b p,X,Y,h,x,y=>by
  have:=Pat.lat_keeps (p:=p) h (x - a) (y - b)
  simp only[Pat.show]
  rw[<- this];congr 1<;>lia
 | .mir p,X,Y,h,x,y=>by
  have:=Pat.lat_keeps (p:=p) h (-x) y
  simp only[Pat.show]
  rw[<- this];congr 1;lia
 | .tur p,X,Y,h,x,y=>by
  have:=Pat.lat_keeps (p:=p) h y (-x)
  simp only[Pat.show]
  rw[<- this];congr 1;lia
 | .hue f g p,X,Y,h,x,y=>by
  simp only[Pat.show]
  rw[Pat.lat_keeps (p:=p) h x y]
namespace Pat.Keeps
variable {p:Pat}{X Y U V:Int}
theorem zero:p.Keeps 0 0:=λx y=>by rw[FQ,FQ]
theorem add(h:p.Keeps X Y)(k:p.Keeps U V):p.Keeps (X+U) (Y+V):=λx y=>by
 rw[<- GO,<- GO,k,h]
theorem neg(h:p.Keeps X Y):p.Keeps (-X) (-Y):=λx y=>by
 have:=h (x+-X) (y+-Y)
 rw[<- this];congr 1<;>lia
theorem sub(h:p.Keeps X Y)(k:p.Keeps U V):p.Keeps (X - U) (Y - V):=by
 have:=h.add k.neg
 rwa [<- HW,<- HW] at this
theorem nat(h:p.Keeps X Y):∀ n:Nat,p.Keeps ((n:Int)*X) ((n:Int)*Y)
 |0=>by simpa using zero
 |n+1=>by
  have:=(nat h n).add h
  have e:∀ z:Int,((n+1:Nat):Int)*z=(n:Int)*z+z:=λz=>by rw[Gh,GN];simp
  rw[e,e];exact this
theorem mul(h:p.Keeps X Y)(n:Int):p.Keeps (n*X) (n*Y):=by
 rcases HH 0 n with q|q
 ·have:=h.nat n.toNat
  rwa [Fl q] at this
 ·have:=(h.nat (-n).toNat).neg
  rw[Fl (by lia)] at this
  simpa[FZ] using this
end Pat.Keeps
theorem InF.keeps{p:Pat}{w h s x y:Int}(a:p.Keeps w 0)(b:p.Keeps s h)(q:InF w h s x y):p.Keeps x y:=by
 obtain⟨i,j,rfl,rfl⟩:=q
 have:=(a.mul i).add (b.mul j)
 rwa [GP,GQ] at this
theorem InF.one(w h s:Int):InF w h s w 0:=⟨1,0,by lia,by lia⟩
theorem InF.two(w h s:Int):InF w h s s h:=⟨0,1,by lia,by lia⟩
theorem Pat.Fam.keeps{p:Pat}{w h s x y:Int}(f:p.Fam w h s)(q:InF w h s x y):p.Keeps x y:=Pat.lat_keeps ((f.lat x y).mp q)
structure Pat.Least(p:Pat)(w h s:Int):Prop where
 f:Fam0 w h s
 lat:∀ x y,InF w h s x y↔p.Keeps x y
theorem Pat.Least.uniq{p:Pat}{w h s w' h' s':Int}(a:p.Least w h s)(b:p.Least w' h' s'):w=w'/\h=h'/\s=s':=
 InF.uniq a.f.w0 a.f.h0 a.f.s0 a.f.sw b.f.w0 b.f.h0 b.f.s0 b.f.sw λx y=>(a.lat x y).trans (b.lat x y).symm
theorem B4{P:Nat->Prop}(h:∃ n,P n):∃ n,P n/\∀ m,P m->n<=m:=by
 obtain⟨n,hn⟩:=h
 induction n using HX with
 |ind n ih=>
  by_cases q:∃ m,m<n/\P m
  ·obtain⟨m,hm,pm⟩:=q
   exact ih m hm pm
  ·exact⟨n,hn,λm pm=>GC λz=>q ⟨m,z,pm⟩⟩
theorem tN{P:Int->Prop}{w:Int}(hw:0<w)(h:P w):∃ n:Int,0<n/\P n/\∀ m,0<m->P m->n<=m:=by
 obtain⟨n,⟨a,b⟩,c⟩:=B4 (P:=λn=>0<n/\P (n:Int)) ⟨w.toNat,by lia,by rw[Fl (by lia)];exact h⟩
 exact⟨n,by lia,b,λm hm pm=>by have:=c m.toNat ⟨by lia,by rw[Fl (by lia)];exact pm⟩;lia⟩
theorem tO{P:Int->Prop}{n:Int}(hn:0<n)(pn:P n)(l:∀ m,0<m->P m->n<=m)(cl:∀ x q,P x->P (x - q*n)){x:Int}(hx:P x):n∣x:=by
 have e:=Fy x n
 have a:=Fw x (by lia:n≠0)
 have b:=Fx x hn
 have c:=cl x (x / n) hx
 have d:x - x / n*n=x % n:=by rw[e,Fe]
 rw[d] at c
 by_cases z:x % n=0
 ·exact Int.dvd_of_emod_eq_zero z
 ·have:=l _ (by lia) c;lia
theorem Pat.least_ex{p:Pat}{w h s:Int}(F:p.Fam w h s):∃ w' h' s',p.Least w' h' s'/\w'∣w/\h'∣h/\w'*h'<=w*h/\w'<=w/\h'<=h:=by
 obtain⟨m,m0,mk,ml⟩:=tN (P:=λx=>p.Keeps x 0) F.f.w0 (F.keeps (InF.one w h s))
 have md:∀ {x},p.Keeps x 0->m∣x:=λ{x} q=>tO (P:=λx=>p.Keeps x 0) m0 mk ml (λx q hx=>by
  have:=hx.sub (mk.mul q);rwa [GP,GJ] at this) q
 obtain⟨k,k0,⟨t,kk⟩,kl⟩:=tN (P:=λy=>∃ x,p.Keeps x y) F.f.h0 ⟨s,F.keeps (InF.two w h s)⟩
 have kd:∀ {x y},p.Keeps x y->k∣y:=λ{x y} q=>tO (P:=λy=>∃ x,p.Keeps x y) k0 ⟨t,kk⟩ kl (λy q ⟨x,hx⟩=>⟨x - q*t,hx.sub (kk.mul q)⟩) ⟨x,q⟩
 have e:=Fy t m
 have sk:p.Keeps (t % m) k:=by
  have:=kk.sub (mk.mul (t / m))
  rw[GP,GJ] at this
  rw[e,Fe];exact this
 have L:p.Least m k (t % m):=by
  refine⟨⟨m0,k0,Fw t (by lia),Fx t m0⟩,λx y=>⟨λq=>q.keeps mk sk,λq=>?_⟩⟩
  obtain⟨j,rfl⟩:=kd q
  have:=q.sub (sk.mul j)
  rw[Fe k j,GK] at this
  obtain⟨i,hi⟩:=md this
  exact⟨i,j,by rw[Fe i m,<- hi];lia,Fe _ _⟩
 obtain⟨a,b,c⟩:=InF.le m0 k0 F.f.w0 F.f.h0 (λx y q=>(L.lat x y).mpr (F.keeps q))
 exact⟨m,k,_,L,md (F.keeps (InF.one w h s)),kd (F.keeps (InF.two w h s)),a,b,c⟩
theorem tP{w h s:Int}(hw:0<w)(hh:0<h)(x y:Int):InF w h s (x - hmX w h s x y) (y - y % h):=by
 have e1:=Fy y h
 have e2:=Fy (x - y / h*s) w
 refine⟨(x - y / h*s) / w,y / h,?_,by rw[e1,Fe];lia⟩
 unfold hmX
 rw[e2,Fe w];lia
theorem Pat.show_home{p:Pat}{w h s:Int}(hw:0<w)(hh:0<h)(k:∀ x y,InF w h s x y->p.Keeps x y)(x y:Int):p.show (hmX w h s x y) (y % h)=p.show x y:=by
 have:=k _ _ (tP (s:=s) hw hh x y) (hmX w h s x y) (y % h)
 rw[<- this];congr 1<;>lia
theorem B5(f:Nat->Nat){w c:Nat}(h:c<w):((ET w).map f).drop c++((ET w).map f).take c=(ET w).map λk=>f ((c+k) % w):=by
 apply Gn
 intro i
 by_cases h1:i<w - c
 ·rw[FH (by simp;exact h1),List.getElem?_drop,E8,E8,FF (by lia),FF (by lia)]
  simp[HY (show c+i<w by lia)]
 ·rw[FW (by simp;lia)]
  simp only[Gj,E1,Hg]
  by_cases h2:i<w
  ·rw[Hs (by lia),E8,E8,FF (by lia),FF (by lia)]
   have e:(c+i) % w=i - (w - c):=by
    rw[show c+i=(i - (w - c))+w by lia,Nat.add_mod_right,HY (by lia)]
   simp[e]
  ·rw[FN (by simp;lia),FN (by simp;lia)]
theorem fN(l:List Nat):cs (⟨l.toArray⟩:Str)=l:=by simp
theorem B6{l:List Nat}{t:Str}{c:Int}(ht:cs t=l)(c0:0<=c)(cl:c<l.length):Txt.slice t (some c) none++Txt.slice t none (some c)=(⟨(l.drop c.toNat++l.take c.toNat).toArray⟩:Str):=by
 have hl:t.length=l.length:=by rw[<- ht,bq]
 apply eO
 rw[bF,slice_cps,slice_cps,fN,fN,fN,show t.cps.toList=l from ht,hl]
 have e1:HT.sIx l.length 0 (some c)=c.toNat:=by show(if c<0 then _ else min c.toNat l.length)=_;rw[if_neg (by lia)];lia
 have e2:HT.sIx l.length l.length none=l.length:=rfl
 have e3:HT.sIx l.length 0 none=0:=rfl
 have e4:HT.sIx l.length l.length (some c)=c.toNat:=by show(if c<0 then _ else min c.toNat l.length)=_;rw[if_neg (by lia)];lia
 rw[e1,e2,e3,e4,HZ,HD (by simp)]
 rfl
theorem cC(p:Pat)(x y:Int)(n:Nat):cs (ay p x y n)=(ET n).map λ(k:Nat)=>aY (p.show (x+(k:Int)) y):=fN _
theorem B7{p:Pat}{w h s:Int}(hw:0<w)(hh:0<h)(k:∀ x y,InF w h s x y->p.Keeps x y)(x y:Int):
  Txt.slice (ay p 0 (y % h) w.toNat) (some (hmX w h s x y)) none++Txt.slice (ay p 0 (y % h) w.toNat) none (some (hmX w h s x y))=ay p x y w.toNat:=by
 have c0:0<=hmX w h s x y:=Fw _ (by lia)
 have c1:hmX w h s x y<w:=Fx _ hw
 rw[B6 (cC p 0 (y % h) w.toNat) c0 (by simp;lia),B5 _ (by lia)]
 unfold ay
 congr 2
 apply GE
 intro i _
 have e:=Pat.show_home hw hh k (x+(i:Int)) y
 rw[<- e]
 congr 2
 have q:hmX w h s (x+(i:Int)) y=(hmX w h s x y+i) % w:=by
  unfold hmX
  rw[Int.emod_add_emod];congr 1;lia
 rw[q,GQ,H8,Gh,Fl c0,Fl (by lia)]
def cf(p:Pat)(w h:Int):D:= .lst ((ET h.toNat).map λ(y:Nat)=>D.str (ay p 0 (y:Int) w.toNat))
def B8:SpD:=λds R=>∃ (p:Pat) (d:D),ds=[d]/\bv p d/\p.Ok/\∀ w h s,p.Fam w h s->w*h<=720->w<=720->h<=720->R (cf p w h)
def B9:SpD:=λds R=>∃ (p:Pat) (w h s x y:Int),ds=[.tup [.int w,.int h,.int s],cf p w h,.int x,.int y]/\p.Fam w h s/\w<=720/\h<=720/\R (.str (ay p x y w.toNat))
theorem tQ{a b:Int}(a0:0<=a)(a6:a<=6)(b0:0<=b)(b6:b<=6)(e:aY a=aY b):a=b:=by
 unfold aY at e
 split at e<;>split at e<;>lia
theorem Ca{p q:Pat}{x y u v:Int}{n:Nat}(hp:p.Ok)(hq:q.Ok)(e:ay p x y n=ay q u v n){k:Nat}(hk:k<n):p.show (x+k) y=q.show (u+k) v:=by
 have e2:cs (ay p x y n)=cs (ay q u v n):=by rw[e]
 rw[cC,cC] at e2
 have e3:=congrArg (λl=>l[k]?) e2
 simp[hk] at e3
 have a:=Pat.show_le hp.wf (by have:=hp.deep;lia) (x+k) y
 have b:=Pat.show_le hq.wf (by have:=hq.deep;lia) (u+k) v
 exact tQ a.1 a.2 b.1 b.2 e3
theorem rowText_eq{p q:Pat}{x y u v:Int}{n:Nat}(e:∀ k:Nat,k<n->p.show (x+k) y=q.show (u+k) v):ay p x y n=ay q u v n:=by
 apply eO
 rw[cC,cC]
 exact GE λk hk=>by rw[e k (by simpa using hk)]
theorem tR{p:Pat}{w h s:Int}(ok:p.Ok)(F:p.Fam w h s)(x y:Int):(∀ j:Nat,j<h.toNat->ay p x (y+j) w.toNat=ay p 0 j w.toNat)↔p.Keeps x y:=by
 have hw:=F.f.w0
 have hh:=F.f.h0
 constructor
 ·intro e a b
  have c0:0<=hmX w h s a b:=Fw _ (by lia)
  have c1:hmX w h s a b<w:=Fx _ hw
  have d0:0<=b % h:=Fw _ (by lia)
  have d1:b % h<h:=Fx _ hh
  have k:=F.keeps (tP (s:=s) hw hh a b)
  have q:=Ca ok ok (e (b % h).toNat (by lia)) (k:=(hmX w h s a b).toNat) (by lia)
  rw[Fl c0,Fl d0] at q
  have q1:=k (x+hmX w h s a b) (y+b % h)
  have q2:=k (0+hmX w h s a b) (b % h)
  rw[show x+hmX w h s a b+(a - hmX w h s a b)=a+x by lia,show y+b % h+(b - b % h)=b+y by lia] at q1
  rw[show 0+hmX w h s a b+(a - hmX w h s a b)=a by lia,show b % h+(b - b % h)=b by lia] at q2
  rw[q1,q2,q]
 ·intro k j _
  exact rowText_eq λi _=>by
   have:=k (0+i) j
   rw[<- this];congr 1<;>lia
def Cb:SpD:=λds R=>∃ n:Int,ds=[.int n]/\0<n/\n<=1000/\∀ ns:List Int,ns.length<=1000->(∀ m,m∈ns↔1<=m/\m<=n/\n % m=0)->R (.lst (ns.map D.int))
def Cc:SpD:=λds R=>∃ (p:Pat) (w h s x y:Int),ds=[.tup [.int w,.int h,.int s],cf p w h,.int x,.int y]/\p.Ok/\p.Fam w h s/\w<=720/\h<=720/\∀ b,(b=true↔p.Keeps x y)->R (.bl b)
structure Pat.LeastW(p:Pat)(w m:Int):Prop where
 lo:1<=m
 hi:m<=w
 md:w % m=0
 k:p.Keeps m 0
 l:∀ d,1<=d->d<=w->w % d=0->p.Keeps d 0->m<=d
theorem Pat.LeastW.eq{p:Pat}{w h s w' h' s' m:Int}(F:p.Fam w h s)(L:p.Least w' h' s')(a:p.LeastW w m):m=w':=by
 have w0:=L.f.w0
 have k:p.Keeps w' 0:=(L.lat _ _).mp (InF.one _ _ _)
 obtain⟨i,j,e1,e2⟩:=(L.lat m 0).mpr a.k
 have h0:=L.f.h0
 have j0:j=0:=by
  rcases Gu j 0 with q|q|q
  ·have:=GR q h0;lia
  ·exact q
  ·have:=Fc q h0;lia
 subst j0
 rw[GI,FQ] at e1
 have lo:=a.lo
 have i0:0<i:=by
  rcases Gu i 0 with q|q|q
  ·have:=GR q w0;lia
  ·subst q;lia
  ·exact q
 have h1:w'<=m:=by
  rw[e1]
  have:=Fg (show 1<=i by lia) (show 0<=w' by lia)
  lia
 obtain⟨i2,j2,f1,f2⟩:=(L.lat w 0).mpr (F.keeps (InF.one w h s))
 have Pp:j2=0:=by
  rcases Gu j2 0 with q|q|q
  ·have:=GR q h0;lia
  ·exact q
  ·have:=Fc q h0;lia
 subst Pp
 have h2:=a.l w' (by lia) (by have:=a.hi;lia) (by rw[f1,GI,FQ];exact GF _ _) k
 lia
def Cd:SpD:=λds R=>∃ (p:Pat) (w h s:Int),ds=[.tup [.int w,.int h,.int s],cf p w h]/\p.Ok/\p.Fam w h s/\w<=720/\h<=720/\∀ m,p.LeastW w m->R (.int m)
def Ce:SpD:=λds R=>∃ (p:Pat) (w h s m y:Int),ds=[.tup [.int w,.int h,.int s],cf p w h,.int m,.int y]/\p.Ok/\p.Fam w h s/\w<=720/\h<=720/\0<=m/\m<=720/\(∀ t,0<=t->t<m->p.Keeps t y->(∀ u,0<=u->u<t->¬ p.Keeps u y)->R (.int t))/\((∀ t,0<=t->t<m->¬ p.Keeps t y)->R .non)
theorem Cf{j h:Int}(h0:0<h)(e:h=j*h):j=1:=by
 have:(j - 1)*h=0:=by rw[GM,<- e];lia
 rcases Gs.mp this with q|q<;>lia
theorem small_mul{i w:Int}(w0:0<w)(a: -w<i*w)(b:i*w<w):i=0:=by
 rcases Gu i 0 with q|q|q
 ·have:=Fg (show i<=-1 by lia) (show 0<=w by lia);lia
 ·exact q
 ·have:=Fg (show 1<=i by lia) (show 0<=w by lia);lia
theorem Pat.Least.slant{p:Pat}{w h s t:Int}(L:p.Least w h s)(a:0<=t)(b:t<w)(k:p.Keeps t h):t=s:=by
 obtain⟨i,j,e1,e2⟩:=(L.lat t h).mpr k
 have j1:=Cf L.f.h0 e2
 subst j1
 have s0:=L.f.s0
 have sw:=L.f.sw
 have:=small_mul (i:=i) L.f.w0 (by lia) (by lia)
 subst this
 lia
theorem Pat.Least.row{p:Pat}{w h s x y:Int}(L:p.Least w h s)(k:p.Keeps x y):p.Keeps (x % w) y:=by
 have e:=Fy x w
 have:=k.sub (((L.lat _ _).mp (InF.one w h s)).mul (x / w))
 rw[GP,GJ] at this
 rw[e,Fe];exact this
theorem Pat.Least.down{p:Pat}{w h s x y:Int}(L:p.Least w h s)(k:p.Keeps x y)(y0:0<y):h<=y/\y % h=0:=by
 obtain⟨i,j,e1,e2⟩:=(L.lat x y).mpr k
 have h0:=L.f.h0
 have j0:0<j:=by
  rcases Gu j 0 with q|q|q
  ·have:=GR q h0;lia
  ·subst q;lia
  ·exact q
 have:=Fg (show 1<=j by lia) (show 0<=h by lia)
 exact⟨by lia,by rw[e2];exact GF _ _⟩
def Cg:SpD:=λds R=>∃ (p:Pat) (d:D),ds=[d]/\bv p d/\p.Ok/\∀ w h s,p.Least w h s->w*h<=720->w<=720->h<=720->R (.tup [.int w,.int h,.int s])
def hJ(p:Pat)(w h s:Int):D:= .tup [.int w,.int h,.int s,.tup ((ET h.toNat).map λ(y:Nat)=>D.str (ay p 0 (y:Int) w.toNat))]
def Ch:SpD:=λds R=>∃ (p:Pat) (d:D),ds=[d]/\bv p d/\p.Ok/\∀ w h s,p.Least w h s->w*h<=720->w<=720->h<=720->R (hJ p w h s)
theorem Ci{p:Pat}{R:D->Prop}(ok:p.Ok)(h:∀ w h s,p.Fam w h s->w*h<=720->w<=720->h<=720->R (.tup [.int w,.int h,.int s])):ko [.lst (p.leaves.map Leaf.D)] R:=by
 refine⟨p.leaves,p.depth,rfl,λz=>by have:=Pat.leaves_pos p;rw[z] at this;simp at this,λl hl=>Pat.leaf_good ok.wf l hl,λw k s f lat=>?_⟩
 have F:p.Fam w k s:=⟨f,λx y=>(lat x y).trans (Pat.lat_leaves p x y)⟩
 have sm:=ok.fits.small F
 have wh:w*k<=720:=by
  obtain⟨w',h',s',f',hb⟩:=ok.fits
  obtain⟨rfl,rfl,_⟩:=F.uniq f'
  exact hb
 exact⟨λ_=>h w k s F wh sm.2.1 sm.2.2.2.1,λz=>by lia⟩
def FamD(p:Pat):D->Prop:=λx=>∃ w h s:Int,x= .tup [.int w,.int h,.int s]/\p.Fam w h s/\w*h<=720/\w<=720/\h<=720
theorem Cj{p:Pat}(ok:p.Ok):ko [.lst (p.leaves.map Leaf.D)] (FamD p):=Ci ok λw h s F a b c=>⟨w,h,s,rfl,F,a,b,c⟩
theorem Pat.Least.le{p:Pat}{w h s w' h' s':Int}(F:p.Fam w h s)(L:p.Least w' h' s'):w'*h'<=w*h:=(InF.le L.f.w0 L.f.h0 F.f.w0 F.f.h0 (λx y q=>(L.lat x y).mpr (F.keeps q))).1
theorem Pat.Least.first{p:Pat}{w h s x y:Int}(L:p.Least w h s)(k:p.Keeps x y)(y0:0<=y)(yh:y<h)(x0:0<=x)(xw:x<w):x=0/\y=0:=by
 obtain⟨i,j,e1,e2⟩:=(L.lat x y).mpr k
 have h0:=L.f.h0
 have j0:=small_mul (i:=j) h0 (by lia) (by lia)
 subst j0
 have i0:=small_mul (i:=i) L.f.w0 (by lia) (by lia)
 subst i0
 lia
def sumN(g:Nat->Int):Nat->Int
 |0=>0
 |n+1=>sumN g n+g n
theorem dP{g f:Nat->Int}:∀ {n:Nat},(∀ k,k<n->g k=f k)->sumN g n=sumN f n
 |0,_=>rfl
 |n+1,h=>by rw[sumN,sumN,dP λk hk=>h k (by lia),h n (by lia)]
theorem hU(g:Nat->Int)(n:Nat):∀ m:Nat,sumN g (n+m)=sumN g n+sumN (λk=>g (n+k)) m
 |0=>by simp[sumN]
 |m+1=>by rw[<- Nat.add_assoc,sumN,sumN,hU g n m];lia
theorem tS(g f:Nat->Int):∀ n:Nat,sumN (λk=>g k+f k) n=sumN g n+sumN f n
 |0=>rfl
 |n+1=>by simp only[sumN,tS g f n];lia
theorem Ck{g:Nat->Int}{N:Nat}(hN:0<N)(Jv:∀ k,g (k+N)=g k)(n:Nat):sumN (λj=>(((n:Int) - 1 - j) / N+1)*g j) (min n N)=sumN g n:=by
 induction n using HX with
 |ind n ih=>
  by_cases h:n<=N
  ·rw[H9 h]
   refine dP λk hk=>?_
   rw[Ia (by lia) (by lia)];simp
  ·have e1:n=N+(n - N):=by lia
   have i:=ih (n - N) (by lia)
   have Mn:sumN (λk=>g (N+k)) (n - N)=sumN g (n - N):=dP λk _=>by rw[Ha];exact Jv k
   rw[Nat.min_eq_right (by lia)]
   have e2:sumN g n=sumN g N+sumN g (n - N):=by
    conv=>lhs;rw[e1]
    rw[hU,Mn]
   rw[e2,<- i]
   have e3:min (n - N) N+(N - min (n - N) N)=N:=by lia
   have split:∀ f:Nat->Int,sumN f N=sumN f (min (n - N) N)+sumN (λk=>f (min (n - N) N+k)) (N - min (n - N) N):=λf=>by
    conv=>lhs;rw[<- e3]
    exact hU _ _ _
   rw[split,split g]
   have a:sumN (λj=>(((n:Int) - 1 - j) / N+1)*g j) (min (n - N) N)=sumN g (min (n - N) N)+sumN (λj=>((((n - N:Nat):Int) - 1 - j) / N+1)*g j) (min (n - N) N):=by
    rw[<- tS]
    refine dP λk hk=>?_
    have q:((n:Int) - 1 - k) / N=(((n - N:Nat):Int) - 1 - k) / N+1:=by
     rw[show((n:Int) - 1 - k)=(((n - N:Nat):Int) - 1 - k)+1*N by lia,HS _ _ (by lia)]
    rw[q,GN];lia
   have b:sumN (λk=>(((n:Int) - 1 - ((min (n - N) N+k:Nat):Int)) / N+1)*g (min (n - N) N+k)) (N - min (n - N) N)=sumN (λk=>g (min (n - N) N+k)) (N - min (n - N) N):=by
    refine dP λk hk=>?_
    rw[Ia (by lia) (by lia)];simp
   rw[a,b];lia
def cntN(f:Nat->Int)(v:Int)(n:Nat):Int:=sumN (λk=>if f k=v then 1 else 0) n
theorem tT(f:Nat->Int)(v:Int):∀ n,0<=cntN f v n/\cntN f v n<=n
 |0=>by simp[cntN,sumN]
 |n+1=>by
  have:=tT f v n
  unfold cntN at this ⊢
  rw[sumN]
  split<;>lia
theorem Cl{f:Nat->Int}{w:Nat}(hw:0<w)(Jv:∀ k,f (k+w)=f k)(v:Int)(m:Nat):((m / w:Nat):Int)*cntN f v w+cntN f v (m % w)=cntN f v m:=by
 have key:∀ q r:Nat,cntN f v (w*q+r)=(q:Int)*cntN f v w+cntN f v r:=λq=>by
  have sh:∀ q k,f (w*q+k)=f k:=λq=>by
   induction q with
   |zero=>intro k;rw[Nat.mul_zero,Gv]
   |succ q ih=>intro k;rw[Ib,show w*q+w+k=w*q+k+w by lia,Jv];exact ih k
  induction q with
  |zero=>intro r;simp
  |succ q ih=>
   intro r
   rw[Ib,show w*q+w+r=w*q+(w+r) by lia,ih,Gh,GN]
   have e:cntN f v (w+r)=cntN f v w+cntN f v r:=by
    unfold cntN
    rw[hU]
    congr 1
    refine dP λk _=>?_
    rw[Ha w k,Jv]
   rw[e];simp;lia
 have:=key (m / w) (m % w)
 rw[Nat.div_add_mod] at this
 exact this.symm
theorem hV(y:Str)(c:Nat):∀ (m a:Nat) (st:Array Nat × Nat),a+m=y.length+1->st.2<=a->st.1.size<=a->(forIn (List.range' a m) st (StrLaws.occBody y ⟨#[c]⟩ y.length (y.length+1))).run.fst.size=st.1.size+(((cs y).drop a).filter (·==c)).length
 |0,a,st,h,_,_=>by
  rw[Hi (by rw[bq];lia)]
  rfl
 |m+1,a,st,h,h1,h2=>by
  have l1:(⟨#[c]⟩:Str).length=1:=rfl
  have q:=StrLaws.subAt_eq y ⟨#[c]⟩ a
  rw[List.range'_succ,G0]
  by_cases ha:a<y.length
  ·have hd:(cs y).drop a=(cs y)[a]'(by rw[bq];exact ha)::(cs y).drop (a+1):=Gg (by rw[bq];exact ha)
   rw[show y.cps.toList.drop a=_ from hd,l1] at q
   rw[hd,List.filter_cons]
   by_cases e:(cs y)[a]'(by rw[bq];exact ha)=c
   ·have eb:StrLaws.occBody y ⟨#[c]⟩ y.length (y.length+1) a st=pure (.yield (st.1.push a,a+1)):=by
     unfold StrLaws.occBody
     rw[if_pos ⟨⟨⟨by lia,h1⟩,by rw[l1];lia⟩,by rw[q];simp[e]⟩,l1]
    rw[eb]
    have:=hV y c m (a+1) (st.1.push a,a+1) (by lia) (ER _) (by simp;lia)
    simp only[e,beq_self_eq_true,if_true,EW]
    refine Eq.trans this ?_
    simp only[Array.size_push];lia
   ·have eb:StrLaws.occBody y ⟨#[c]⟩ y.length (y.length+1) a st=pure (.yield (st.1,st.2)):=by
     unfold StrLaws.occBody
     rw[if_neg]
     rintro⟨_,z⟩
     rw[q] at z
     simp at z
     exact e z
    rw[eb]
    have:=hV y c m (a+1) st (by lia) (by lia) (by lia)
    rw[if_neg (by simpa using e)]
    exact this
  ·have eb:StrLaws.occBody y ⟨#[c]⟩ y.length (y.length+1) a st=pure (.yield (st.1,st.2)):=by
    unfold StrLaws.occBody
    rw[if_neg]
    rintro⟨⟨_,z⟩,_⟩
    rw[l1] at z;lia
   rw[eb]
   have:=hV y c m (a+1) st (by lia) (by lia) (by lia)
   rw[Hi (by rw[bq];lia)]
   rw[Hi (by rw[bq];lia)] at this
   exact this
theorem Cm(y:Str)(c:Nat):(Builtin.Str.occurrences y ⟨#[c]⟩ 0 y.length (y.length+1)).length=((cs y).filter (·==c)).length:=by
 rw[StrLaws.occ_eq,FS,hV y c _ 0 _ (by lia) (ER _) (ER _)]
 simp
theorem tU(f:Nat->Int)(b:∀ k,0<=f k/\f k<=6){v:Int}(v0:0<=v)(v6:v<=6):∀ n:Nat,(((((ET n).map λk=>aY (f k)).filter (·==aY v)).length:Nat):Int)=cntN f v n
 |0=>rfl
 |n+1=>by
  rw[Go,Fv,List.filter_append,E2,Gh,tU f b v0 v6 n]
  show _=cntN f v n+_
  congr 1
  by_cases e:f n=v
  ·simp[e]
  ·have:¬ aY (f n)=aY v:=λz=>e (tQ (b n).1 (b n).2 v0 v6 z)
   simp[this,e]
theorem Cn{p:Pat}(ok:p.Ok)(x y:Int){v:Int}(v0:0<=v)(v6:v<=6)(n:Nat):(((cs (ay p x y n)).filter (·==aY v)).length:Int)=cntN (λk=>p.show (x+k) y) v n:=by
 rw[cC]
 exact tU _ (λk=>Pat.show_le ok.wf (by have:=ok.deep;lia) _ _) v0 v6 n
theorem Co(p:Pat)(x y:Int){n r:Nat}(h:r<=n):Txt.slice (ay p x y n) none (some (r:Int))=ay p x y r:=by
 apply eO
 rw[slice_cps,fN,cC,show(ay p x y n).cps.toList=_ from cC p x y n,gZ]
 have e1:HT.sIx n 0 none=0:=rfl
 have e2:HT.sIx n n (some (r:Int))=r:=by show(if(r:Int)<0 then((r:Int)+n).toNat else min (r:Int).toNat n)=r;rw[if_neg (by lia)];lia
 rw[e1,e2,HZ,Nat.sub_zero,<- List.map_take,List.take_range,H9 h]
def occC(t:Str)(c:Nat):Int:=((Builtin.Str.occurrences t ⟨#[c]⟩ 0 t.length (t.length+1)).length:Nat)
theorem tV{p:Pat}(ok:p.Ok)(x y:Int){v:Int}(v0:0<=v)(v6:v<=6)(n:Nat):occC (ay p x y n) (aY v)=cntN (λk=>p.show (x+k) y) v n:=by
 unfold occC
 rw[Cm,Cn ok x y v0 v6]
def dh(p:Pat)(v left top:Int)(m n:Nat):Int:=sumN (λj=>cntN (λk=>p.show (left+k) (top+j)) v m) n
def dQ(p:Pat)(left top:Int)(m n:Nat):List Int:=(ET 7).map λ(v:Nat)=>dh p v left top m n
def Cp:SpD:=λds R=>∃ (p:Pat) (x y v m:Int) (w:Nat),ds=[.str (ay p x y w),.str ⟨#[aY v]⟩,.int m]/\p.Ok/\0<=v/\v<=6/\0<w/\w<=720/\0<=m/\m<2 ^ 63/\p.Keeps w 0/\R (.int (cntN (λk=>p.show (x+k) y) v m.toNat))
theorem Pat.Fam.across{p:Pat}{w h s:Int}(F:p.Fam w h s):p.Keeps w 0:=F.keeps (InF.one w h s)
theorem Pat.Fam.down{p:Pat}{w h s:Int}(F:p.Fam w h s):p.Keeps 0 (w*h):=F.keeps ⟨-s,w,by rw[FZ,Fe w s];lia,rfl⟩
theorem Cq{p:Pat}{N:Nat}(hN:0<N)(k:p.Keeps 0 N)(v left top:Int)(m n:Nat):sumN (λj=>(((n:Int) - 1 - j) / N+1)*cntN (λk=>p.show (left+k) (top+j)) v m) (min n N)=dh p v left top m n:=by
 refine Ck (g:=λj=>cntN (λk=>p.show (left+k) (top+j)) v m) hN (λj=>?_) n
 unfold cntN
 refine dP λi _=>?_
 have e:p.show (left+i) (top+((j+N:Nat):Int))=p.show (left+i) (top+j):=by
  have:=k (left+i) (top+j)
  rw[FQ] at this
  rw[<- this,Gh,GO]
 simp only[e]
theorem Cr{α:Type}(f g:Nat->α){n i:Nat}(h:∀ v,v<n->v≠i->g v=f v):((ET n).map f).set i (g i)=(ET n).map g:=by
 apply Gn
 intro k
 rw[Ga]
 by_cases hk:i=k
 ·subst hk
  simp only[if_true,E1,Hg]
  by_cases hi:i<n
  ·simp[hi]
  ·simp[hi]
 ·rw[if_neg hk]
  by_cases hi:k<n
  ·simp[hi,h k hi (Ne.symm hk)]
  ·simp[hi]
theorem Cs:bP ".123456"=(ET 7).map λ(v:Nat)=>D.str ⟨#[aY (v:Int)]⟩:=by
 unfold bP
 rw[show(".123456":Str).cps.toList=[46,49,50,51,52,53,54] by decide+kernel]
 rfl
def bU(p:Pat)(left top:Int)(m n N k:Nat)(v:Int):Int:=sumN (λj=>(((n:Int) - 1 - j) / N+1)*cntN (λi=>p.show (left+i) (top+j)) v m) k
theorem Ct{top a9 W:Int}{n N:Nat}(hn:(a9 - top+1).toNat=n)(wN:W=(N:Int)):((if top+W<a9+1 then top+W else a9+1) - top).toNat=min n N:=by split<;>lia
theorem Cu{top a9 W:Int}(a: -1000000000000<=top/\top<=1000000000000)(c: -1000000000000<=a9/\a9<=1000000000000)(w0:0<W)(w1:W<=720): -(2 ^ 62)<=top/\top<2 ^ 62/\-(2 ^ 62)<=(if top+W<a9+1 then top+W else a9+1)/\(if top+W<a9+1 then top+W else a9+1)<2 ^ 62:=by split<;>lia
theorem Cw{top a9:Int}{n N k:Nat}(hn:(a9 - top+1).toNat=n)(hk:k<min n N):a9 - (top+k)=(n:Int) - 1 - k:=by lia
theorem tW{l r:Int}{m:Nat}(a: -1000000000000<=l/\l<=1000000000000)(b: -1000000000000<=r/\r<=1000000000000)(h:(r - l+1).toNat=m):m<=2000000000001:=by lia
theorem Cy(x:Int):(if 0>x then 0 else x)=(x.toNat:Int):=by split<;>lia
def Cz:SpX:=λds R RX=>∃ (p:Pat) (d:D) (left top right a9:Int),ds=[d,.int left,.int top,.int right,.int a9]/\bv p d/\p.Ok/\(aC left/\aC top/\aC right/\aC a9->R (.lst ((dQ p left top (right - left+1).toNat (a9 - top+1).toNat).map D.int)))/\(¬ (aC left/\aC top/\aC right/\aC a9)->RX "TooFar" [])
def tX:SpX:=λds R RX=>∃ (p:Pat) (d:D) (hue left top right a9:Int),ds=[d,.int hue,.int left,.int top,.int right,.int a9]/\bv p d/\p.Ok/\0<=hue/\hue<=6/\(aC left/\aC top/\aC right/\aC a9->R (.int (dh p hue left top (right - left+1).toNat (a9 - top+1).toNat)))/\(¬ (aC left/\aC top/\aC right/\aC a9)->RX "TooFar" [])
theorem CA{p:Pat}{d:D}{v l t r b:Int}{R:D->Prop}(hd:bv p d)(ok:p.Ok)(v0:0<=v)(v6:v<=6)(n:aC l/\aC t/\aC r/\aC b)(h:R (.int (dh p v l t (r - l+1).toNat (b - t+1).toNat))):gH tX [d,.int v,.int l,.int t,.int r,.int b] R:=⟨p,d,v,l,t,r,b,rfl,hd,ok,v0,v6,λ_=>h,λz=>z n⟩
theorem tY{p:Pat}(X Y:Int):(Pat.mir p).Keeps X Y↔p.Keeps (-X) Y:=by
 constructor<;>intro h x y
 ·have:=h (-x) y
  simp only[Pat.show,GS,Ic] at this
  exact this
 ·have:=h (-x) y
  simp only[Pat.show,GS]
  exact this
theorem tZ{p:Pat}(X Y:Int):(Pat.tur p).Keeps X Y↔p.Keeps Y (-X):=by
 constructor<;>intro h x y
 ·have:=h (-y) x
  simp only[Pat.show,GS,Ic] at this
  exact this
 ·have:=h y (-x)
  simp only[Pat.show,GS]
  exact this
theorem ub{p:Pat}(a b X Y:Int):(Pat.sh a b p).Keeps X Y↔p.Keeps X Y:=by
 constructor<;>intro h x y
 ·have:=h (x+a) (y+b)
  simp only[Pat.show] at this
  rw[show x+a+X - a=x+X by lia,show y+b+Y - b=y+Y by lia,show x+a - a=x by lia,show y+b - b=y by lia] at this
  exact this
 ·have:=h (x - a) (y - b)
  simp only[Pat.show]
  rw[show x+X - a=x - a+X by lia,show y+Y - b=y - b+Y by lia]
  exact this
theorem Pat.Least.mir{p:Pat}{w h s:Int}(k:p.Least w h s):(Pat.mir p).Least w h (-s % w):=by
 refine⟨⟨k.f.w0,k.f.h0,bR k.f.w0,bS k.f.w0⟩,λx y=>?_⟩
 rw[tY,<- k.lat]
 have e:=Fy (-s) w
 generalize -s % w=r at e
 generalize -s / w=t at e
 constructor
 ·rintro⟨i,j,rfl,rfl⟩
  exact⟨j*t - i,j,by rw[e];grind,rfl⟩
 ·rintro⟨i,j,ex,rfl⟩
  exact⟨j*t - i,j,by rw[e];grind,rfl⟩
theorem Pat.Least.tur{p:Pat}{w h s w' h' s':Int}(k:p.Least w h s)(f:FamOf 0 w (-h) s w' h' s'):(Pat.tur p).Least w' h' s':=by
 refine⟨⟨f.1,f.2.1,f.2.2.1,f.2.2.2.1⟩,λx y=>?_⟩
 rw[tZ,<- k.lat,f.lat]
 constructor
 ·rintro⟨i,j,rfl,rfl⟩
  exact⟨i,j,by grind,by grind⟩
 ·rintro⟨i,j,ex,ey⟩
  exact⟨i,j,by grind,by grind⟩
theorem Pat.Least.sh{p:Pat}{w h s:Int}(a b:Int)(k:p.Least w h s):(Pat.sh a b p).Least w h s:=⟨k.f,λx y=>by rw[ub,k.lat]⟩
structure Mv(p q:Pat)(b0 b1 b2 b3:Int):Prop where
 keeps:∀ X Y,q.Keeps X Y↔p.Keeps (b0*X+b1*Y) (b2*X+b3*Y)
 leaf:∀ l ls,p.leaves=l::ls->∃ l' ls',q.leaves=l'::ls'/\l'.w0=l.w0*b0+l.w1*b2/\l'.w1=l.w0*b1+l.w1*b3/\l'.w2=l.w2*b0+l.w3*b2/\l'.w3=l.w2*b1+l.w3*b3
 area:∀ w h s,p.Least w h s->∃ w' h' s',q.Least w' h' s'/\w'*h'=w*h
theorem Mv.mir{p q:Pat}{b0 b1 b2 b3:Int}(m:Mv p q b0 b1 b2 b3):Mv p (.mir q) (-b0) b1 (-b2) b3:=by
 refine⟨λX Y=>?_,λl ls e=>?_,λw h s L=>?_⟩
 ·rw[tY,m.keeps,FO,FO,FZ,FZ]
 ·obtain⟨l',ls',e',h0,h1,h2,h3⟩:=m.leaf l ls e
  refine⟨_,_,by rw[Pat.leaves,e',E9],?_,?_,?_,?_⟩<;>simp only[Leaf.by,h0,h1,h2,h3]<;>grind
 ·obtain⟨w',h',s',L',e⟩:=m.area w h s L
  exact⟨_,_,_,L'.mir,e⟩
theorem Mv.tur{p q:Pat}{b0 b1 b2 b3:Int}(m:Mv p q b0 b1 b2 b3):Mv p (.tur q) (-b1) b0 (-b3) b2:=by
 refine⟨λX Y=>?_,λl ls e=>?_,λw h s L=>?_⟩
 ·rw[tZ,m.keeps,FO,FO,FZ,FZ,Ie (b0*Y),Ie (b2*Y)]
 ·obtain⟨l',ls',e',h0,h1,h2,h3⟩:=m.leaf l ls e
  refine⟨_,_,by rw[Pat.leaves,e',E9],?_,?_,?_,?_⟩<;>simp only[Leaf.by,h0,h1,h2,h3]<;>grind
 ·obtain⟨w',h',s',L',e⟩:=m.area w h s L
  obtain⟨w2,h2,s2,f,e2⟩:=gU (s:=s') L'.f.w0 L'.f.h0
  exact⟨_,_,_,L'.tur f,by lia⟩
theorem Mv.sh{p q:Pat}{b0 b1 b2 b3:Int}(a b:Int)(m:Mv p q b0 b1 b2 b3):Mv p (.sh a b q) b0 b1 b2 b3:=by
 refine⟨λX Y=>?_,λl ls e=>?_,λw h s L=>?_⟩
 ·rw[ub,m.keeps]
 ·obtain⟨l',ls',e',h0,h1,h2,h3⟩:=m.leaf l ls e
  refine⟨_,_,by rw[Pat.leaves,e',E9],?_,?_,?_,?_⟩<;>simp only[Leaf.by,h0,h1,h2,h3]<;>grind
 ·obtain⟨w',h',s',L',e⟩:=m.area w h s L
  exact⟨_,_,_,L'.sh a b,e⟩
theorem CB{p:Pat}{w h k:Int}(a:0<=k)(b:k<h):atI ((ET h.toNat).map λ(y:Nat)=>D.str (ay p 0 (y:Int) w.toNat)) k=some (.str (ay p 0 k w.toNat)):=by
 have e:k=((k.toNat:Nat):Int):=by lia
 rw[e]
 exact bV (by rw[E8,FF (by lia)];simp)
theorem CC{p:Pat}{w i j:Int}(a:0<=i)(b:i<w):atI (cs (ay p 0 j w.toNat)) i=some (aY (p.show i j)):=by
 have e:i=((i.toNat:Nat):Int):=by lia
 rw[e]
 exact bV (by rw[cC,E8,FF (by lia)];simp)
structure Side(a w:Int)(A t:Nat):Prop where
 n:aC a
 A4:A<=4000000000000
 t1:t<=1000
 e:aC (a+A*w+t - 1)
theorem Side.of{a w:Int}{A t:Nat}(n:aC a)(w0:0<w)(hA:(A:Int)<=(1000000000000 - a+1) / w)(h:(t<=720/\(t:Int)<=1000000000000 - a+1 - A*w/\¬ (a=-1000000000000/\A=0))\/(a=-1000000000000/\A=0/\1<=t/\t<=720)):Side a w A t:=by
 have h1:=Fg hA (show 0<=w by omega)
 have h2:=Int.ediv_mul_le (1000000000000 - a+1) (show w≠0 by omega)
 have h3:(A:Int)<=A*w:=by
  have:=G7 (show 1<=w by omega) (show 0<=(A:Int) by omega)
  omega
 unfold aC at n
 rcases h with⟨t7,ht,ne⟩|⟨e1,rfl,t0,t7⟩
 ·refine⟨n,by omega,by omega,?_,by omega⟩
  by_cases z:A=0
  ·subst z;simp at ne ⊢;omega
  ·omega
 ·refine⟨n,by omega,by omega,?_,?_⟩<;>simp<;>omega
end My
end
section
namespace My
local macro_rules | `(tactic| k_memK) => `(tactic| exact⟨rfl, rfl, rfl, by decide +kernel, rfl, by decide +kernel, by decide +kernel⟩)
local macro_rules | `(tactic| k_places) => `(tactic| try simp only[Fh, Fi, My.aS])
open PySem PySem.Spec PyProof.Rows L2
def top(i:Nat):Stmt:=PySem.Challenge.pw_motiffield_k37_whole_cells.main.body.getD i (.Pass ⟨0,0,0,0⟩)
abbrev kC:Stmt:=top 69
abbrev kD:List Str:=["_law_a","_law_b"]
theorem sc__law_gcd:FnScope ["_law_a","_law_b"] kD (ag kC):=by k_memK
abbrev kE:Stmt:=top 66
abbrev kF:List Str:=["_law_one","_law_two","_law_u","_law_v"]
theorem sc__law_on:FnScope ["_law_one","_law_two","_law_u","_law_v","_law_size"] kF (ag kE):=by k_memK
abbrev kG:Stmt:=top 71
abbrev kH:List Str:=["_law_leaf"]
theorem sc__law_leaf_family:FnScope ["_law_leaf","_law_a","_law_b","_law_c","_law_d","_law_e","_law_f","_law_one","_law_two","_law_high","_law_wide","_law_lean"] kH (ag kG):=by k_memK
abbrev kI:Stmt:=top 70
abbrev kJ:List Str:=["_law_three","_law_x","_law_y"]
theorem CD:FnScope ["_law_three","_law_x","_law_y"] kJ (ag kI):=by k_memK
abbrev kK:Stmt:=top 72
abbrev kL:List Str:=["_law_one","_law_two"]
theorem sc__law_both:FnScope ["_law_one","_law_two","_law_wide","_law_high","_law_x"] kL (ag kK):=by k_memK
abbrev kM:Stmt:=top 73
abbrev kN:List Str:=["_law_leaves"]
theorem sc__law_family:FnScope ["_law_leaves","_law_both_here","_law_leaf"] kN (ag kM):=by k_memK
abbrev kO:Stmt:=top 74
abbrev kP:List Str:=["_law_upper","_law_lower"]
theorem sc__law_over:FnScope ["_law_upper","_law_lower","_law_leaves"] kP (ag kO):=by k_memK
abbrev kQ:Stmt:=top 58
abbrev kR:List Str:=["_law_script","_law_k"]
theorem CF:FnScope ["_law_script","_law_k"] kR (ag kQ):=by k_memK
abbrev kS:Stmt:=top 60
abbrev kT:List Str:=["_law_script","_law_k","_law_many"]
theorem sc__law_draws:FnScope ["_law_script","_law_k","_law_many","_law_left","_law_drawn","_law_turn","_law_seed"] kT (ag kS):=by k_memK
abbrev kU:Stmt:=top 63
abbrev kW:List Str:=["_law_draws_here"]
theorem sc__law_lines:FnScope ["_law_draws_here","_law_wide","_law_tall","_law_signs","_law_lines_here","_law_j","_law_line","_law_i","_law_place","_law_value"] kW (ag kU):=by k_memK
abbrev kX:Stmt:=top 61
abbrev kY:List Str:=["_law_draws_here"]
theorem sc__law_shift_pair:FnScope ["_law_draws_here","_law_a","_law_b","_law_c","_law_d"] kY (ag kX):=by k_memK
abbrev kZ:Stmt:=top 62
abbrev lf:List Str:=["_law_lines_here","_law_one","_law_two"]
theorem sc__law_motif_text:FnScope ["_law_lines_here","_law_one","_law_two","_law_tail"] lf (ag kZ):=by k_memK
abbrev lh:Stmt:=top 64
abbrev ll:List Str:=["_law_script","_law_k"]
theorem sc__law_motif:FnScope ["_law_script","_law_k","_law_draws_here","_law_lines_here","_law_one","_law_two","_law_leaf"] ll (ag lh):=by k_memK
abbrev hZ:Stmt:=top 65
abbrev lm:List Str:=["_law_part","_law_draw"]
theorem sc__law_wrapped:FnScope ["_law_part","_law_draw","_law_across","_law_down","_law_old","_law_new","_law_shift","_law_head","_law_ways","_law_by","_law_leaves","_law_leaf","_law_a","_law_b","_law_c","_law_d","_law_e","_law_f","_law_way","_law_hues"] lm (ag hZ):=by k_memK
abbrev lp:Stmt:=top 75
abbrev lq:List Str:=["_law_script","_law_k"]
theorem sc__law_pattern:FnScope ["_law_script","_law_k","_law_plan","_law_part","_law_turn","_law_step","_law_other"] lq (ag lp):=by k_memK
abbrev lr:Stmt:=top 76
abbrev lu:List Str:=["_law_script","_law_k"]
theorem CG:FnScope ["_law_script","_law_k"] lu (ag lr):=by k_memK
abbrev lv:Stmt:=bc (top 2) 0
abbrev lx:List Str:=["self","place"]
theorem CH:FnScope ["self","place"] lx (ag lv):=by k_memK
abbrev ly:Stmt:=bc (top 46) 1
abbrev lz:List Str:=["self","allowed"]
theorem CI:FnScope ["self","allowed"] lz (ag ly):=by k_memK
abbrev lC:Stmt:=bc (top 46) 2
abbrev lD:List Str:=["self","allowed"]
theorem sc_Reading_take:FnScope ["self","allowed","sign"] lD (ag lC):=by k_memK
abbrev lF:Stmt:=top 49
abbrev lG:List Str:=["reading","least","most"]
theorem sc_line_from:FnScope ["reading","least","most","line","column"] lG (ag lF):=by k_memK
abbrev lH:Stmt:=top 50
abbrev lJ:List Str:=["reading"]
theorem sc_lines_from:FnScope ["reading","lines","width"] lJ (ag lH):=by k_memK
abbrev lK:Stmt:=top 47
abbrev lL:List Str:=["reading"]
theorem sc_number_from:FnScope ["reading","written"] lL (ag lK):=by k_memK
abbrev lM:Stmt:=top 48
abbrev lN:List Str:=["reading"]
theorem sc_shift_from:FnScope ["reading","x"] lN (ag lM):=by k_memK
abbrev lP:Stmt:=top 7
abbrev lQ:List Str:=["first","second"]
theorem sc_levelled:FnScope ["first","second","times","rest"] lQ (ag lP):=by k_memK
abbrev lR:Stmt:=top 9
abbrev lU:List Str:=["first","second"]
theorem sc_spread:FnScope ["first","second","pair","width"] lU (ag lR):=by k_memK
abbrev lV:Stmt:=top 10
abbrev lW:List Str:=["family","x","y"]
theorem sc_home:FnScope ["family","x","y","width","height","slant"] lW (ag lV):=by k_memK
abbrev lY:Stmt:=top 16
abbrev lZ:List Str:=["lines","family"]
theorem sc_hues_by_home:FnScope ["lines","family","hues","row","line","column","sign"] lZ (ag lY):=by k_memK
abbrev ma:Stmt:=bc (top 17) 0
abbrev me:List Str:=["self","place","lines","first","second"]
theorem CJ:FnScope ["self","place","lines","first","second"] me (ag ma):=by k_memK
abbrev mf:Stmt:=top 51
abbrev mi:List Str:=["reading"]
theorem sc_motif_from:FnScope ["reading","place","lines","first","second"] mi (ag mf):=by k_memK
abbrev mj:Stmt:=bc (top 20) 0
abbrev mm:List Str:=["self","form"]
theorem CK:FnScope ["self","form"] mm (ag mj):=by k_memK
abbrev mn:Stmt:=bc (top 21) 0
abbrev mo:List Str:=["self","form"]
theorem CL:FnScope ["self","form"] mo (ag mn):=by k_memK
abbrev mq:Stmt:=bc (top 18) 0
abbrev mv:List Str:=["self","above","below"]
theorem CM:FnScope ["self","above","below"] mv (ag mq):=by k_memK
abbrev mx:Stmt:=bc (top 19) 0
abbrev my:List Str:=["self","form","x","y"]
theorem CN:FnScope ["self","form","x","y"] my (ag mx):=by k_memK
abbrev mz:Stmt:=bc (top 22) 0
abbrev mB:List Str:=["self","form","old","new"]
theorem CO:FnScope ["self","form","old","new"] mB (ag mz):=by k_memK
abbrev ia:Stmt:=top 52
abbrev fO:List Str:=["reading","around"]
theorem sc_over_from:FnScope ["reading","around","above","below"] fO (ag ia):=by k_memK
abbrev ib:Stmt:=top 53
abbrev fP:List Str:=["reading","around"]
theorem sc_shifted_from:FnScope ["reading","around","shift"] fP (ag ib):=by k_memK
abbrev ic:Stmt:=top 54
abbrev fQ:List Str:=["reading","around"]
theorem sc_rehue_from:FnScope ["reading","around","old","new"] fQ (ag ic):=by k_memK
abbrev ie:Stmt:=top 55
abbrev cD:List Str:=["reading","around"]
theorem sc_form_from:FnScope ["reading","around","sign"] cD (ag ie):=by k_memK
abbrev mC:Stmt:=bc (top 46) 0
abbrev mD:List Str:=["self","text"]
theorem CP:FnScope ["self","text"] mD (ag mC):=by k_memK
abbrev mF:Stmt:=bc (top 45) 0
abbrev mG:List Str:=["self","text","shifts","form"]
theorem CQ:FnScope ["self","text","shifts","form"] mG (ag mF):=by k_memK
abbrev mH:Stmt:=bc (top 3) 0
abbrev mI:List Str:=["self","place"]
theorem CS:FnScope ["self","place"] mI (ag mH):=by k_memK
abbrev mJ:Stmt:=top 8
abbrev mK:List Str:=["one","two"]
theorem sc_measure:FnScope ["one","two","last"] mK (ag mJ):=by k_memK
abbrev mL:Stmt:=top 11
abbrev mM:List Str:=["one","two"]
theorem sc_met:FnScope ["one","two","common","width","rise","start","gap","climbs","steps"] mM (ag mL):=by k_memK
abbrev mN:Stmt:=top 12
abbrev mO:List Str:=["family"]
theorem CT:FnScope ["family"] mO (ag mN):=by k_memK
abbrev mQ:Stmt:=top 13
abbrev mR:List Str:=["family"]
theorem CU:FnScope ["family"] mR (ag mQ):=by k_memK
abbrev ig:Stmt:=bc (top 17) 1
abbrev cn:List Str:=["self"]
theorem CV:FnScope ["self"] cn (ag ig):=by k_memK
abbrev ii:Stmt:=bc (top 18) 1
abbrev ij:List Str:=["self"]
theorem sc_Over_family:FnScope ["self","first"] ij (ag ii):=by k_memK
abbrev ik:Stmt:=bc (top 19) 1
abbrev il:List Str:=["self"]
theorem CW:FnScope ["self"] il (ag ik):=by k_memK
abbrev im:Stmt:=bc (top 20) 1
abbrev io:List Str:=["self"]
theorem CY:FnScope ["self"] io (ag im):=by k_memK
abbrev ip:Stmt:=bc (top 21) 1
abbrev iq:List Str:=["self"]
theorem CZ:FnScope ["self"] iq (ag ip):=by k_memK
abbrev ir:Stmt:=bc (top 22) 1
abbrev iu:List Str:=["self"]
theorem C0:FnScope ["self"] iu (ag ir):=by k_memK
abbrev mU:Stmt:=top 56
abbrev mV:List Str:=["text"]
theorem sc_read:FnScope ["text","reading","form","family"] mV (ag mU):=by k_memK
abbrev mW:Stmt:=top 27
abbrev mY:List Str:=["x","y"]
theorem C1:FnScope ["x","y"] mY (ag mW):=by k_memK
abbrev iw:Stmt:=bc (top 17) 2
abbrev cq:List Str:=["self","x","y"]
theorem C3:FnScope ["self","x","y"] cq (ag iw):=by k_memK
abbrev iy:Stmt:=bc (top 18) 2
abbrev iz:List Str:=["self","x","y"]
theorem sc_Over_shows:FnScope ["self","x","y","hue"] iz (ag iy):=by k_memK
abbrev iA:Stmt:=bc (top 19) 2
abbrev iB:List Str:=["self","x","y"]
theorem C4:FnScope ["self","x","y"] iB (ag iA):=by k_memK
abbrev iC:Stmt:=bc (top 20) 2
abbrev iD:List Str:=["self","x","y"]
theorem C5:FnScope ["self","x","y"] iD (ag iC):=by k_memK
abbrev iE:Stmt:=bc (top 21) 2
abbrev iF:List Str:=["self","x","y"]
theorem C6:FnScope ["self","x","y"] iF (ag iE):=by k_memK
abbrev iG:Stmt:=bc (top 22) 2
abbrev iH:List Str:=["self","x","y"]
theorem sc_Rehue_shows:FnScope ["self","x","y","hue"] iH (ag iG):=by k_memK
abbrev mZ:Stmt:=top 28
abbrev ng:List Str:=["pattern","x","y"]
theorem C7:FnScope ["pattern","x","y"] ng (ag mZ):=by k_memK
abbrev nh:Stmt:=top 67
abbrev nj:List Str:=["_law_leaf","_law_x","_law_y"]
theorem sc__law_leaf_shows:FnScope ["_law_leaf","_law_x","_law_y","_law_way","_law_u","_law_v","_law_j","_law_i"] nj (ag nh):=by k_memK
abbrev nn:Stmt:=top 68
abbrev nq:List Str:=["_law_leaves","_law_x","_law_y"]
theorem sc__law_shows:FnScope ["_law_leaves","_law_x","_law_y","_law_leaf","_law_hue"] nq (ag nn):=by k_memK
abbrev nt:Stmt:=top 59
abbrev nu:List Str:=["_law_found"]
theorem C8:FnScope ["_law_found"] nu (ag nt):=by k_memK
abbrev iI:Stmt:=top 29
abbrev nv:List Str:=["pattern","x","y","many"]
theorem C9:FnScope ["pattern","x","y","many"] nv (ag iI):=by k_memK
abbrev iJ:Stmt:=top 30
abbrev nw:List Str:=["pattern"]
theorem Da:FnScope ["pattern"] nw (ag iJ):=by k_memK
abbrev iK:Stmt:=top 37
abbrev nz:List Str:=["number"]
theorem Db:FnScope ["number"] nz (ag iK):=by k_memK
abbrev nA:Stmt:=top 31
abbrev nB:List Str:=["family","rows","x","y"]
theorem sc_round_row:FnScope ["family","rows","x","y","cell","row"] nB (ag nA):=by k_memK
abbrev nC:Stmt:=top 38
abbrev nD:List Str:=["family","rows","x","y"]
theorem sc_changes_nothing:FnScope ["family","rows","x","y","step","row"] nD (ag nC):=by k_memK
abbrev iL:Stmt:=top 39
abbrev nE:List Str:=["family","rows"]
theorem Dc:FnScope ["family","rows"] nE (ag iL):=by k_memK
abbrev nF:Stmt:=top 40
abbrev nG:List Str:=["family","rows","width","height"]
theorem sc_slant_at:FnScope ["family","rows","width","height","slant"] nG (ag nF):=by k_memK
abbrev iM:Stmt:=top 41
abbrev nH:List Str:=["pattern"]
theorem sc_least_shifts:FnScope ["pattern","family","rows","width","height"] nH (ag iM):=by k_memK
abbrev iN:Stmt:=top 42
abbrev nI:List Str:=["pattern"]
theorem sc_least_form:FnScope ["pattern","family","rows"] nI (ag iN):=by k_memK
abbrev nJ:Stmt:=top 77
abbrev nK:List Str:=["_law_value"]
theorem Dd:FnScope ["_law_value"] nK (ag nJ):=by k_memK
abbrev nL:Stmt:=top 78
abbrev nM:List Str:=["_law_made","_law_shape","_law_x","_law_y","_law_due"]
theorem sc__law_one_word:FnScope ["_law_made","_law_shape","_law_x","_law_y","_law_due","_law_found","_law_told","_law_spot"] nM (ag nL):=by k_memK
abbrev nN:Stmt:=top 33
abbrev nO:List Str:=["row","sign","many"]
theorem De:FnScope ["row","sign","many"] nO (ag nN):=by k_memK
abbrev iO:Stmt:=top 34
abbrev nP:List Str:=["pattern","left","top","right","bottom"]
theorem sc_count_all:FnScope ["pattern","left","top","right","bottom","family","rows","many","again","counts","y","times","row","hue","sign"] nP (ag iO):=by k_memK
abbrev nQ:Stmt:=top 35
abbrev nR:List Str:=["pattern","hue","left","top","right","bottom"]
theorem sc_count_hue:FnScope ["pattern","hue","left","top","right","bottom","counts"] nR (ag nQ):=by k_memK
abbrev nS:Stmt:=top 79
abbrev nU:List Str:=["_law_made","_law_x","_law_y","_law_due","_law_other"]
theorem sc__law_counted_once:FnScope ["_law_made","_law_x","_law_y","_law_due","_law_other","_law_hue","_law_many"] nU (ag nS):=by k_memK
abbrev iP:Stmt:=top 80
abbrev nV:List Str:=["_law_script"]
theorem sc_law:FnScope ["_law_script","_law_part","_law_three","_law_made","_law_y","_law_x","_law_found","_law_shape","_law_k","_law_due"] nV (ag iP):=by k_memK
section
variable {V:Bx}
abbrev iQ(V:Bx):Prop:=V.D 1 "_law_gcd" kD Av
theorem Df(T:V.T "_law_gcd" kC kD)(uN:V.m "abs"):iQ V:=by
 refine Tx.okDW T sc__law_gcd (λds R h=>?_) (λf cdv A outer s H E J hr=>⟨_,((ah (ai 0 sc__law_gcd.nd (eg uN (ac (aa 0) ae)))
   (ah (ai 1 sc__law_gcd.nd (eg uN (ac (aa 1) ae)))
   (ah (fD PassesOwn.never (cw (aa 1) ad) (ak (xV 0 1 rfl sc__law_gcd.nd (ac (aa 1) (ac (av (aa 0) (aa 1)) ae)))))
   (ak (au (aa 0))))))),λds R h=>?_⟩)
 ·obtain⟨x,y,rfl,_⟩:=h;rfl
 ·obtain⟨x,y,rfl,hR⟩:=h
  refine⟨λd=>d= .int (if x<0 then -x else x),rfl,?_⟩;rintro _ rfl;k_places
  refine⟨λd=>d= .int (if y<0 then -y else y),rfl,?_⟩;rintro _ rfl;k_places
  have hx:0<=(if x<0 then -x else x):=by split<;>lia
  have hy:0<=(if y<0 then -y else y):=by split<;>lia
  have Mo:∀ e,(e∣(if x<0 then -x else x)/\e∣(if y<0 then -y else y))↔(e∣x/\e∣y):=λe=>by rw[sq,sq]
  generalize (if x<0 then -x else x)=a at hx Mo ⊢
  generalize (if y<0 then -y else y)=b at hy Mo ⊢
  refine⟨λm z=>∃ a b:Int,z=[some (.int a),some (.int b)]/\0<=a/\0<=b/\(∀ e,(e∣a/\e∣b)↔(e∣x/\e∣y))/\m=b.toNat,⟨_,a,b,rfl,hx,hy,Mo,rfl⟩,?_⟩
  rintro m z ⟨a,b,rfl,ha,hb,Ko,rfl⟩;k_places
  refine ite2 (λc=>?_) (λc=>?_)
  ·have c':¬ b=0:=by simpa using c
   have q1:=bR (a:=a) (show 0<b by lia)
   have q2:=bS (a:=a) (show 0<b by lia)
   refine⟨by lia,_,?_,b,a % b,rfl,hb,q1,λe=>?_,rfl⟩
   ·lia
   ·rw[<- Ko e]
    constructor
    ·rintro⟨h1,h2⟩;exact⟨(sr h1).mp h2,h1⟩
    ·rintro⟨h1,h2⟩;exact⟨h2,(sr h2).mpr h1⟩
  ·have c':b=0:=by simpa using c
   subst c'
   have g:=(Ko a).mp ⟨Int.dvd_refl a,Int.dvd_zero a⟩
   exact hR a ha g.1 g.2 λe h1 h2=>((Ko e).mpr ⟨h1,h2⟩).1
abbrev iR(V:Bx):Prop:=V.D 1 "_law_on" kF Au
theorem Dg(T:V.T "_law_on" kE kF):iR V:=by
 refine Tx.okDW T sc__law_on (λds R h=>?_) (λf cdv A outer s H E J hr=>⟨_,((ah (ai 4 sc__law_on.nd (bf (ar (af (aa 0) ad) (af (aa 1) ad)) (ar (af (aa 0) ad) (af (aa 1) ad))))
   (ak (au (gp (cH (qt (bf (ar (aa 2) (af (aa 1) ad)) (ar (aa 3) (af (aa 1) ad))) (aa 4)) ad) (gm (cH (qt (bf (ar (af (aa 0) ad) (aa 3)) (ar (af (aa 0) ad) (aa 2))) (aa 4)) ad))))))),λds R h=>?_⟩)
 ·obtain⟨a,b,c,d,u,v,rfl,_⟩:=h;rfl
 ·obtain⟨a,b,c,d,u,v,rfl,ha,hb,hc,hd,hn,hR⟩:=h
  have Jw:∀ {x:Int},x.natAbs<1073741824->-(2 ^ 64)<x/\x<2 ^ 64:=λh=>n64 (Nat.le_of_lt_succ h)
  refine⟨λx=>x= .int (a*d - b*c),⟨_,rfl,_,rfl,.inl (Jw ha),_,rfl,_,rfl,.inl (Jw hb),rfl⟩,?_⟩;rintro _ rfl;k_places
  refine⟨_,rfl,.inr (Jw hd),_,rfl,.inr (Jw hc),by omega,ite2 (λe=>?_) (λe=>?_)⟩
  ·have e':=of_decide_eq_true e
   refine⟨_,rfl,.inl (Jw ha),_,rfl,.inl (Jw hb),by omega,?_⟩
   have q:decide ((a*v - b*u).fmod (a*d - b*c)=0)=decide ((u*d - v*c).fmod (a*d - b*c)=0/\(a*v - b*u).fmod (a*d - b*c)=0):=by simp[e']
   have g:R (.bl (decide ((a*v - b*u).fmod (a*d - b*c)=0))):=by rw[q];exact hR
   exact g
  ·have e':=of_decide_eq_false (Fs.mpr e)
   have q:decide ((u*d - v*c).fmod (a*d - b*c)=0/\(a*v - b*u).fmod (a*d - b*c)=0)=false:=by simp[e']
   rw[q] at hR
   exact hR
abbrev nW(V:Bx):Prop:=V.D 2 "_law_leaf_family" kH A7
theorem Dh(T:V.T "_law_leaf_family" kG kH)(uN:V.m "abs")(Jy:iQ V)(Jz:iR V):nW V:=by
 refine Tx.okDW T sc__law_leaf_family (λds R h=>?_) (λf cdv A outer s H E J hr=>⟨_,((ah (qJ rfl (af (aa 0) ad) (dg_cons 1 sc__law_leaf_family.nd (dg_cons 2 sc__law_leaf_family.nd (dg_cons 3 sc__law_leaf_family.nd (dg_cons 4 sc__law_leaf_family.nd (dg_cons 5 sc__law_leaf_family.nd (dg_cons 6 sc__law_leaf_family.nd dD)))))))
   (ah (ai 7 sc__law_leaf_family.nd (aJ (ac (am (ar (aa 1) (af (af (aa 0) ad) ad)) (ar (aa 3) (af (af (aa 0) ad) ad))) (ac (am (ar (aa 2) (af (af (aa 0) ad) ad)) (ar (aa 4) (af (af (aa 0) ad) ad))) ae))))
   (ah (ai 8 sc__law_leaf_family.nd (aJ (ac (am (ar (aa 1) (af (af (aa 0) ad) ad)) (ar (aa 3) (af (af (aa 0) ad) ad))) (ac (am (ar (aa 2) (af (af (aa 0) ad) ad)) (ar (aa 4) (af (af (aa 0) ad) ad))) ae))))
   (ah (ai 9 sc__law_leaf_family.nd (aq Jy hr (ac (af (aa 7) ad) (ac (af (aa 8) ad) ae))))
   (ah (ai 10 sc__law_leaf_family.nd (aV (eg uN (ac (bf (ar (af (aa 7) ad) (af (aa 8) ad)) (ar (af (aa 7) ad) (af (aa 8) ad))) ae)) (aa 9)))
   (ah (ai 11 sc__law_leaf_family.nd ad)
   (ah (fD PassesOwn.never (dB (bX (aq Jz hr (ac (aa 7) (ac (aa 8) (ac (aa 11) (ac (aa 9) ae))))))) (ak (ai 11 sc__law_leaf_family.nd (am (aa 11) ad))))
   (ak (au (aJ (ac (aa 10) (ac (aa 9) (ac (aa 11) ae)))))))))))))),λds R h=>?_⟩)
 ·obtain⟨_,_,rfl,_⟩:=h;rfl
 ·obtain⟨l,n,rfl,gd,nr,hR⟩:=h
  obtain⟨h0,h1,h2,h3⟩:=nr.unit
  obtain⟨z0,z1,z2,z3,ne,z5⟩:=Leaf.sizes gd nr
  have ha:=gd.a
  have hb:=gd.b
  have hc:=gd.c
  have hd:=gd.d
  unfold B12 at ha hb hc hd
  refine⟨_,rfl,rfl,?_⟩
  simp only[Fh,Fi,aS]
  refine⟨λx=>x= .tup [.int l.o0,.int l.o1],⟨_,rfl,_,rfl,.inl (u64 h0),_,rfl,_,rfl,.inl (u64 h2),_,rfl,_,rfl,.inl (u64 h1),_,rfl,_,rfl,.inl (u64 h3),by simp,rfl⟩,?_⟩;rintro _ rfl;k_places
  refine⟨λx=>x= .tup [.int l.t0,.int l.t1],⟨_,rfl,_,rfl,.inl (u64 h0),_,rfl,_,rfl,.inl (u64 h2),_,rfl,_,rfl,.inl (u64 h1),_,rfl,_,rfl,.inl (u64 h3),by simp,rfl⟩,?_⟩;rintro _ rfl;k_places
  generalize l.o0=o0 at*
  generalize l.o1=o1 at*
  generalize l.t0=t0 at*
  generalize l.t1=t1 at*
  refine⟨λx=>∃ g:Int,x= .int g/\0<=g/\g∣o1/\g∣t1/\∀ e,e∣o1->e∣t1->e∣g,⟨_,rfl,_,rfl,o1,t1,rfl,λg q0 q1 q2 q3=>⟨g,rfl,q0,q1,q2,q3⟩⟩,?_⟩
  rintro _ ⟨g,rfl,q0,q1,q2,q3⟩;k_places
  obtain⟨w,s,f⟩:=A6 ne q0 q1 q2 q3
  have hg:=f.2.1
  have k1:=bx (a:=o0) (d:=t1) (A:=24) (B:=24) z0 z3
  have k2:=bx (a:=o1) (d:=t0) (A:=24) (B:=24) z1 z2
  have Qk:=f.bd (N:=288) z5
  have j8:=f.cells
  have ew:(if o0*t1 - o1*t0<0 then -(o0*t1 - o1*t0) else o0*t1 - o1*t0) / g=w:=by
   have hp:=Fc f.1 hg
   have:(if o0*t1 - o1*t0<0 then -(o0*t1 - o1*t0) else o0*t1 - o1*t0)=w*g:=by split<;>lia
   rw[this]
   exact Ft _ (by lia)
  refine⟨λx=>x= .int w,⟨_,rfl,_,rfl,.inl (n64 z0),_,rfl,_,rfl,.inl (n64 z1),⟨by lia,by lia⟩,?_⟩,?_⟩
  ·exact congrArg D.int ew
  rintro _ rfl;k_places
  refine⟨λx=>x= .int 0,rfl,?_⟩;rintro _ rfl;k_places
  have hp:=Fc f.1 hg
  refine⟨λm z=>∃ x:Int,z=[some l.D,some (.int l.w0),some (.int l.w1),some (.int l.w2),some (.int l.w3),some (.int l.w4),some (.int l.w5),some (.tup [.int o0,.int o1]),some (.tup [.int t0,.int t1]),some (.int g),some (.int w),some (.int x)]/\0<=x/\x<=s/\m=(s - x).toNat,⟨_,0,rfl,by lia,f.2.2.1,rfl⟩,?_⟩
  rintro m z ⟨x,rfl,x0,x1,rfl⟩;k_places
  refine⟨o0,o1,t0,t1,x,g,rfl,by lia,by lia,by lia,by lia,ne,?_⟩
  refine ite2 (λc=>?_) (λc=>?_)
  ·have c':¬ ((x*t1 - g*t0).fmod (o0*t1 - o1*t0)=0/\(o0*g - o1*x).fmod (o0*t1 - o1*t0)=0):=notT c
   have xs:x≠s:=by
    rintro rfl
    obtain⟨_,_,_,_,m',n',k',l',_,e1,e2,e3,e4⟩:=id f
    exact c' (si e3 e4)
   refine⟨λd=>d= .int (x+1),rfl,?_⟩;rintro _ rfl;k_places
   exact⟨_,by lia,x+1,rfl,by lia,by lia,rfl⟩
  ·have c':(x*t1 - g*t0).fmod (o0*t1 - o1*t0)=0/\(o0*g - o1*x).fmod (o0*t1 - o1*t0)=0:=by
    exact notF c
   obtain⟨i,j,e1,e2⟩:=sJ ne c'
   have:x=s:=f.uniq_lean e1 e2 x0 x1
   subst this
   exact⟨by simp,hR w g x f (by lia)⟩
abbrev nX(V:Bx):Prop:=V.D 1 "_law_in_family" kJ As
theorem Di(T:V.T "_law_in_family" kI kJ):nX V:=by
 refine Tx.okDW T CD (λds R h=>?_) (λf cdv A outer s H E J hr=>⟨_,((ak (au (gp (cH (av (aa 2) (af (aa 0) ad)) ad) (gm (cH (av (bf (aa 1) (ar (aV (aa 2) (af (aa 0) ad)) (af (aa 0) ad))) (af (aa 0) ad)) ad)))))),λds R h=>?_⟩)
 ·obtain⟨w,h,s,x,y,rfl,_⟩:=h;rfl
 ·obtain⟨w,h,s,x,y,rfl,hw,hh,y9,hs,m5,hR⟩:=h
  refine⟨_,rfl,hh,ite2 (λc=>?_) (λc=>?_)⟩
  ·have c':=of_decide_eq_true c
   refine⟨_,rfl,⟨hh,y9⟩,_,rfl,.inr ⟨by lia,by lia⟩,_,rfl,hw,?_⟩
   have e:decide ((x - y / h*s) % w=0)=decide (y % h=0/\(x - y / h*s) % w=0):=by simp[c']
   have g:R (.bl (decide ((x - y / h*s) % w=0))):=by rw[e];exact hR
   exact g
  ·have c':=of_decide_eq_false (Fs.mpr c)
   have e:decide (y % h=0/\(x - y / h*s) % w=0)=false:=by simp[c']
   rw[e] at hR
   exact hR
abbrev nY(V:Bx):Prop:=V.D 2 "_law_both" kL Ba
theorem Dj(T:V.T "_law_both" kK kL)(Jy:iQ V)(Mp:nX V):nY V:=by
  refine Tx.okDW T sc__law_both (λds R h=>?_) (λf cdv A outer s H E J hr=>⟨_,((ah (ai 2 sc__law_both.nd (aV (ar (af (aa 0) ad) (af (aa 1) ad)) (aq Jy hr (ac (af (aa 0) ad) (ac (af (aa 1) ad) ae)))))
      (ah (ai 3 sc__law_both.nd (af (aa 0) ad))
      (ah (fD PassesOwn.never (xI (ar (aa 2) (aa 3)) ad) (ah (ai 4 sc__law_both.nd (av (ar (af (aa 0) ad) (aV (aa 3) (af (aa 0) ad))) (af (aa 0) ad)))
        (ah (fD PassesOwn.never (dz (aa 4) (aa 2)) (ah (bg (bX (aq Mp hr (ac (aa 1) (ac (aa 4) (ac (aa 3) ae))))) (ak (au (aJ (ac (aa 2) (ac (aa 3) (ac (aa 4) ae)))))) aW)
          (ak (ai 4 sc__law_both.nd (am (aa 4) (af (aa 0) ad))))))
        (ak (ai 3 sc__law_both.nd (am (aa 3) (af (aa 0) ad)))))))
      (ak (au cG)))))),λds R h=>?_⟩)
  · obtain⟨_,_,_,_,_,_,rfl,_⟩:=h;rfl
  · obtain⟨w1,h1,s1,w2,h2,s2,rfl,f1,f2,hR⟩:=h
    obtain⟨a1,a2,a3,a4,a5,a6⟩:=f1
    obtain⟨b1,b2,b3,b4,b5,b6⟩:=f2
    obtain⟨g,u,W,Hh,S,A,M1,eW,M⟩:=A9 ⟨a1,a2,a3,a4,a5,a6⟩ ⟨b1,b2,b3,b4,b5,b6⟩
    have N1:=hR W Hh S A M
    have wb:W<=518400:=by
      have:=(kh a1 b1 M1).2.1
      have:=bx (a:=w1) (d:=w2) (A:=720) (B:=720) (by lia) (by lia)
      lia
    have mw:=M.w0
    have mh:=M.h0
    have ms:=M.s0
    have Ql:=M.sw
    refine⟨λx=>x= .int W,⟨_,rfl,_,rfl,.inl ⟨by lia,by lia⟩,_,rfl,_,rfl,w1,w2,rfl,λG q0 q1 q2 q3=>?_⟩,?_⟩
    · have eG:=M1.gcd q0 q1 q2 q3
      subst eG
      have hg:=M1.pos a1
      have Mq:=M1.le a1
      exact⟨⟨hg,by lia⟩,by rw[<- eW]⟩
    rintro _ rfl;k_places
    refine⟨λx=>x= .int h1,⟨_,rfl,rfl⟩,?_⟩;rintro _ rfl;k_places
    obtain⟨i0,j0,eS,eH⟩:=M.up1
    have Pq:1<=j0:=by
      rcases(by lia:j0<=0\/1<=j0) with z|z
      · have:=FM z (show 0<=h1 by lia)
        lia
      · exact z
    refine⟨λm z=>∃ (j:Int) (o:Option D),z=[some (.tup [.int w1,.int h1,.int s1]),some (.tup [.int w2,.int h2,.int s2]),some (.int W),some (.int (j*h1)),o]/\1<=j/\j<=j0/\m=(j0 - j).toNat,⟨_,1,_,by rw[Int.one_mul];rfl,by lia,Pq,rfl⟩,?_⟩
    rintro m z ⟨j,o,rfl,H_,N2,rfl⟩;k_places
    have Pr:0<j*h1:=Fc (by lia) a3
    have Ps:j*h1<=Hh:=by
      rw[eH]
      exact Fg N2 (by lia)
    have Qm:=G7 Ps (show 0<=W by lia)
    refine⟨.inl ⟨by lia,by lia⟩,ite2 (λc=>?_) (λc=>?_)⟩
    · have c':=of_decide_eq_true c
      have Qn:j*h1<=720:=by
        have:=(cU (w:=W) (h:=j*h1) mw Pr).2
        lia
      have Pt:j*h1 / h1=j:=Ft _ (by lia)
      refine⟨λx=>∃ v:Int,x= .int v/\0<=v/\v<w1/\∃ i,v=i*w1+j*s1,⟨_,rfl,_,rfl,⟨by lia,by lia⟩,.inl ⟨by lia,by lia⟩,_,rfl,a1,_,rfl,bR a1,bS a1,?_⟩,?_⟩
      · rw[Pt]
        refine⟨-(s1*j / w1),?_⟩
        have:=Fy (s1*j) w1
        rw[this]
        have e1:s1*j=j*s1:=Fe _ _
        have e2:w1*(s1*j / w1)=s1*j / w1*w1:=Fe _ _
        rw[e2,FZ]
        lia
      rintro _ ⟨x0,rfl,x1,x2,i1,N3⟩;k_places
      refine⟨λm z=>∃ (x:Int),z=[some (.tup [.int w1,.int h1,.int s1]),some (.tup [.int w2,.int h2,.int s2]),some (.int W),some (.int (j*h1)),some (.int x)]/\0<=x/\(∃ i,x=i*w1+j*s1)/\(j=j0->x<=S)/\m=(W - x).toNat,⟨_,x0,rfl,x1,⟨i1,N3⟩,λej=>?_,rfl⟩,?_⟩
      · subst ej
        obtain⟨k,ek,k0⟩:=Bb a1 x2 x1 ms eS ⟨i1,N3⟩
        have:=G4 k0 (show 0<=w1 by lia)
        lia
      rintro m z ⟨x,rfl,y0,⟨i2,ex⟩,yS,rfl⟩;k_places
      refine ite2 (λc=>?_) (λc=>?_)
      · have cW:=of_decide_eq_true c
        refine⟨w2,h2,s2,x,j*h1,rfl,b1,b3,by lia,b5,by lia,?_⟩
        refine ite2 (λq=>?_) (λq=>?_)
        · have q':=of_decide_eq_true q
          obtain⟨i3,k3,e3,e4⟩:=A8 q'
          obtain⟨z1,z2⟩:=M.high a3 H_ ⟨i2,ex⟩ ⟨i3,k3,e3,e4⟩
          have Mr:j*h1=Hh:=by lia
          have:=z2 Mr y0 cW
          subst this
          have:=N1.1 (by rw[<- Mr];lia)
          rw[<- Mr] at this
          exact⟨by simp,this⟩
        · have q':=of_decide_eq_false (Fs.mpr q)
          refine⟨λd=>d= .int (x+w1),⟨_,rfl,rfl⟩,?_⟩;rintro _ rfl;k_places
          refine⟨_,by lia,x+w1,rfl,by lia,⟨i2+1,by grind⟩,λej=>?_,rfl⟩
          subst ej
          have hx:=yS rfl
          have ne:x≠S:=by
            rintro rfl
            obtain⟨i4,j4,e5,e6⟩:=M.up2
            exact q' (in_fam (i:=i4) (j:=j4) b3 e5 (by rw[<- eH];exact e6))
          -- p7 next one of p7 row is not Ms S
          have:∃ t:Int,S=x+t*w1:=⟨i0 - i2,by rw[ex];grind⟩
          obtain⟨t,et⟩:=this
          have t1:1<=t:=by
            rcases(by lia:t<=0\/1<=t) with z|z
            · have:=FM z (show 0<=w1 by lia)
              lia
            · exact z
          have:=Fg t1 (show 0<=w1 by lia)
          lia
      · have cW:=of_decide_eq_false (Fs.mpr c)
        have Qo:j<j0:=by
          rcases(by lia:j<j0\/j=j0) with z|z
          · exact z
          · have:=yS z;lia
        refine⟨λd=>d= .int ((j+1)*h1),⟨_,rfl,by congr 1;grind⟩,?_⟩;rintro _ rfl;k_places
        exact⟨_,by lia,j+1,_,rfl,by lia,by lia,rfl⟩
    · have c':=of_decide_eq_false (Fs.mpr c)
      exact N1.2 (by lia)
abbrev iS(V:Bx):Prop:=V.D 3 "_law_family" kN ko
theorem Dk(T:V.T "_law_family" kM kN)(La:nW V)(Mt:nY V):iS V:=by
  refine Tx.okDW T sc__law_family (λds R h=>?_) (λf cdv A outer s H E J hr=>⟨_,((ah (ai 1 sc__law_family.nd (aq La hr (ac (af (aa 0) ad) ae)))
      (ah (gw 2 PassesOwn.never rfl sc__law_family.nd (yk (aa 0) ad) (ah (ai 1 sc__law_family.nd (aq Mt hr (ac (aa 1) (ac (aq La hr (ac (aa 2) ae)) ae))))
        (ak (bg (qE (aa 1) cG) (ak (au cG)) aW))))
      (ak (au (aa 1)))))),λds R h=>?_⟩)
  · obtain⟨_,_,rfl,_⟩:=h;rfl
  · obtain⟨ls,n,rfl,j3,hg,hR⟩:=h
    cases ls with
    |nil=>exact absurd rfl j3
    |cons l0 ls=>
    refine⟨λx=>∃ w h s:Int,x= .tup [.int w,.int h,.int s]/\FamOf l0.o0 l0.o1 l0.t0 l0.t1 w h s/\w*h<=288,⟨_,bV (j:=0) rfl,l0,n,rfl,(hg l0 EY).1,(hg l0 EY).2,λw h s f q=>⟨w,h,s,rfl,f,q⟩⟩,?_⟩
    rintro _ ⟨w0,h0,s0,rfl,f0,q0⟩;k_places
    try simp only[Fh,Fi]
    have ec:cutD (Gm Leaf.D (l0::ls)) (some 1) none=ls.map Leaf.D:=by rw[E9,cut1]
    refine⟨λk z=>∃ (w h s:Int) (o:Option D),z=[some (.lst ((l0::ls).map Leaf.D)),some (.tup [.int w,.int h,.int s]),o]/\Fam0 w h s/\w*h<=720/\∀ x y,InF w h s x y↔bH (l0::ls.take k) x y,⟨w0,h0,s0,_,rfl,⟨f0.1,f0.2.1,f0.2.2.1,f0.2.2.2.1⟩,by lia,λx y=>?_⟩,?_,?_⟩
    · rw[f0.lat]
      constructor
      · intro q l z
        rcases EU.mp z with e|e
        · rw[e];exact q
        · cases e
      · intro q
        exact q l0 EY
    · rintro k v z hk ⟨w,h,s,o,rfl,fm,N4,lat⟩;k_places
      rw[ec,E8] at hk
      have n8:k<ls.length:=by
        rcases Gb k ls.length with q|q
        · exact q
        · rw[FN q] at hk;cases hk
      have JA:ls[k]?=some ls[k]:=Fj n8
      rw[JA] at hk
      cases hk
      obtain⟨gd,nr⟩:=hg ls[k] (EV _ (FD n8))
      have Kp:∀ l∈ls.drop (k+1),l.Good/\l.Near n:=λl q=>hg l (EV _ (Ig q))
      have z_:∀ x y,bH (l0::ls) x y↔(bH (l0::ls.take k) x y/\ls[k].Lat x y)/\bH (ls.drop (k+1)) x y:=λx y=>by
        have ed:ls=ls.take k++ls[k]::ls.drop (k+1):=by rw[<- Gg n8,List.take_append_drop]
        constructor
        · intro q
          refine⟨⟨λl z=>?_,q _ (EV _ (FD n8))⟩,λl z=>q l (EV _ (Ig z))⟩
          rcases EU.mp z with e|e
          · exact q l (e ▸ EY)
          · exact q l (EV _ (List.mem_of_mem_take e))
        · rintro⟨⟨q1,q2⟩,q3⟩ l z
          rcases EU.mp z with e|e
          · exact q1 l (e ▸ EY)
          · rw[ed] at e
            rcases Fk.mp e with e|e
            · exact q1 l (EV _ e)
            · rcases EU.mp e with e|e
              · rw[e];exact q2
              · exact q3 l e
      have g_:∀ x y,bH (l0::ls.take (k+1)) x y↔bH (l0::ls.take k) x y/\ls[k].Lat x y:=λx y=>by
        rw[km JA]
        constructor
        · intro q
          refine⟨λl z=>q l ?_,q _ (EV _ (E7 _ EY))⟩
          rcases EU.mp z with e|e
          · rw[e];exact EY
          · exact EV _ (FJ _ e)
        · rintro⟨q1,q2⟩ l z
          rcases EU.mp z with e|e
          · exact q1 l (e ▸ EY)
          · rcases Fk.mp e with e|e
            · exact q1 l (EV _ e)
            · rw[ES.mp e];exact q2
      generalize ls[k]=l at gd nr z_ g_
      obtain⟨p1,p2⟩:=cU fm.w0 fm.h0
      refine⟨λx=>(∃ w h s:Int,x= .tup [.int w,.int h,.int s]/\Fam0 w h s/\w*h<=720/\∀ x y,InF w h s x y↔bH (l0::ls.take (k+1)) x y)\/(x= .non/\R .non),⟨l,n,rfl,gd,nr,λw2 h2 s2 f2 b2=>?_⟩,?_⟩
      · obtain⟨r1,r2⟩:=cU f2.1 f2.2.1
        refine⟨w,h,s,w2,h2,s2,rfl,⟨fm.w0,by lia,fm.h0,by lia,fm.s0,fm.sw⟩,⟨f2.1,by lia,f2.2.1,by lia,f2.2.2.1,f2.2.2.2.1⟩,λW Hh S A M=>⟨λq=>?_,λq=>?_⟩⟩
        · refine .inl ⟨W,Hh,S,rfl,⟨M.w0,M.h0,M.s0,M.sw⟩,q,λx y=>?_⟩
          rw[M.lat,lat,f2.lat,g_]
          exact Iff.rfl
        · refine .inr ⟨rfl,?_⟩
          obtain⟨w3,h3,s3,f3,e3⟩:=sL (ls.drop (k+1)) W Hh S ⟨M.w0,M.h0,M.s0,M.sw⟩ Kp
          refine(hR w3 h3 s3 f3 λx y=>?_).2 ?_
          · rw[e3,M.lat,lat,f2.lat,z_]
            exact Iff.rfl
          · have:=(InF.le M.w0 M.h0 f3.w0 f3.h0 (λx y z=>((e3 x y).mp z).1)).1
            lia
      · rintro _ (⟨W,Hh,S,rfl,Pu,q,e'⟩|⟨rfl,hn⟩);k_places
        · try simp only[Fh,Fi]
          exact⟨W,Hh,S,_,rfl,Pu,q,e'⟩
        · try simp only[Fh,Fi]
          exact hn
    · rintro z ⟨w,h,s,o,rfl,fm,N4,lat⟩;k_places
      rw[ec,E1,GL] at lat
      exact(hR w h s fm lat).1 N4
abbrev iT(V:Bx):Prop:=V.D 4 "_law_over" kP Bd
theorem Dl(T:V.T "_law_over" kO kP)(uV:V.m "max")(JB:iS V):iT V:=by
 refine Tx.okDW T sc__law_over (λds R h=>?_) (λf cdv A outer s H E J hr=>⟨_,((ah (ai 2 sc__law_over.nd (am (af (aa 0) ad) (af (aa 1) ad)))
   (ah (bg (dA (fA (qD (gy rfl uV (ac (af (aa 0) ad) (ac (af (aa 1) ad) ae))) ad) (fz (qE (aq JB hr (ac (aa 2) ae)) cG)))) (ak (au (aa 0))) aW)
   (ak (au (br (ac (am (am (am (am ax (af (aa 0) ad)) ax) (af (aa 1) ad)) ax) (ac (am ad (gy rfl uV (ac (af (aa 0) ad) (ac (af (aa 1) ad) ae)))) (ac (aa 2) ae))))))))),λds R h=>?_⟩)
 ·obtain⟨_,_,rfl,_⟩:=h;rfl
 ·obtain⟨p,q,rfl,wp,wq,dp,dq,Lb,Ld⟩:=h
  have n1:=Pat.leaves_32 dp
  have n2:=Pat.leaves_32 dq
  refine⟨λx=>x= .lst ((Pat.over p q).leaves.map Leaf.D),⟨_,rfl,_,rfl,?_,?_⟩,?_⟩
  ·rw[E1,E1];lia
  ·rw[Pat.leaves,Fv]
  rintro _ rfl;k_places
  refine⟨_,rfl,_,rfl,ite2 (λc=>Lb) (λc=>?_)⟩
  have c':=of_decide_eq_false (Fs.mpr c)
  have ep:p.depth<5/\q.depth<5:=by
   split at c'<;>lia
  refine⟨(Pat.over p q).leaves,(Pat.over p q).depth,rfl,?_,λl hl=>Pat.leaf_good (p:= .over p q) ⟨wp,wq⟩ l hl,λw h s f lat=>⟨λsm=>?_,λ_=>Lb⟩⟩
  ·intro z
   have:(Pat.over p q).leaves.length=0:=by rw[z];rfl
   rw[Pat.leaves,E2] at this
   have:=Pat.leaves_pos p
   lia
  have t1:=Pat.text_short wp dp
  have t2:=Pat.text_short wq dq
  have l1:("(":Str).length=1:=rfl
  have l2:("|":Str).length=1:=rfl
  have l3:(")":Str).length=1:=rfl
  have Mu:(Pat.over p q).Fits:=⟨w,h,s,⟨f,λx y=>(lat x y).trans (Pat.lat_leaves (.over p q) x y)⟩,sm⟩
  refine⟨_,rfl,?_,?_,_,rfl,?_,?_,_,rfl,_,rfl,by simp,?_⟩
  ·lia
  ·rw[aB];lia
  ·rw[aB,aB];lia
  ·rw[aB,aB,aB];lia
  have g:=Ld ep.1 ep.2 Mu
  have e:(1+(if(q.depth:Int)>(p.depth:Int) then(q.depth:Int) else(p.depth:Int)))=(((Pat.over p q).depth:Nat):Int):=by
   rw[Pat.depth]
   split<;>lia
  unfold Pat.D at g
  rw[<- e] at g
  exact g
abbrev iU(V:Bx):Prop:=V.D 1 "_law_at" kR Aq
theorem Dm(T:V.T "_law_at" kQ kR)(uC:V.m "len"):iU V:=by
 refine Tx.okDW T CF (λds R h=>?_) (λf cdv A outer s H E J hr=>⟨_,((ah (bg (dz (aa 1) (cQ uC (ac (aa 0) ae))) (ak (au (af (aa 0) (aa 1)))) aW)
   (ak (au ad)))),λds R h=>?_⟩)
 ·obtain⟨ns,k,rfl,_⟩:=h;rfl
 ·obtain⟨ns,k,rfl,hk,hR⟩:=h
  refine ite2 (λc=>?_) (λc=>?_)
  ·have c':=of_decide_eq_true c
   rw[E1] at c'
   exact⟨_,so hk c',hR⟩
  ·have c':=of_decide_eq_false (Fs.mpr c)
   rw[E1] at c'
   rw[Ap (by lia)] at hR
   exact hR
abbrev iV(V:Bx):Prop:=V.D 2 "_law_draws" kT AD
theorem Dn(T:V.T "_law_draws" kS kT)(uA:V.m "range")(uW:iU V):iV V:=by
 refine Tx.okDW T sc__law_draws (λds R h=>?_) (λf cdv A outer s H E J hr=>⟨_,((ah (ai 3 sc__law_draws.nd (aq uW hr (ac (aa 0) (ac (aa 1) ae))))
   (ah (jJ 4 sc__law_draws.nd ae)
   (ah (bg (bt (av (aq uW hr (ac (aa 0) (ac (am (aa 1) ad) ae))) ad) ad) (ah (cg 5 PassesOwn.never rfl sc__law_draws.nd uA (aa 2) (ah (gv 4 (av (aa 3) ad))
     (ak (ai 3 sc__law_draws.nd (aV (aa 3) ad)))))
    (fB 4 (ak (au (aa 4))))) aW)
   (ah (ai 6 sc__law_draws.nd (av (am (aa 3) ad) ad))
   (ah (cg 5 PassesOwn.never rfl sc__law_draws.nd uA (aa 2) (ah (ai 6 sc__law_draws.nd (av (am (am (ar (aa 6) ad) (aq uW hr (ac (aa 0) (ac (am (am (aa 1) ad) (av (aa 5) ad)) ae)))) (aa 5)) ad))
    (ak (gv 4 (av (av (ar (aa 6) ad) ad) ad)))))
   (fB 4 (ak (au (aa 4)))))))))),λds R h=>?_⟩)
 ·obtain⟨_,_,_,rfl,_⟩:=h;rfl
 ·obtain⟨ns,k,n,rfl,hk,hn,hR⟩:=h
  refine⟨λd=>∃ v:Int,d= .int v,⟨ns,k,rfl,hk,_,rfl⟩,?_⟩
  rintro _ ⟨left,rfl⟩;k_places
  refine⟨by simp,?_⟩
  refine⟨ns,k+1,rfl,by lia,by decide,ite2 (λ_=>?_) (λ_=>?_)⟩
  ·refine⟨⟨by lia,by lia⟩,λi z=>∃ (xs:List Int) (l:Int) (o p:Option D),z=[some (.rol (ns.map D.int)),some (.int k),some (.int n),some (.int l),some (.own (xs.map D.int)),o,p]/\xs.length=i/\Drawn xs,⟨[],left,_,_,rfl,rfl,(λx hx=>by cases hx)⟩,?_,?_⟩
   ·rintro i x z hi ⟨xs,l,o,p,rfl,hl,hd⟩;k_places
    have m6:i<n:=by simpa using(Fb.mp hi).1
    refine⟨by decide,by simp;lia,?_⟩
    refine⟨λd=>∃ v:Int,d= .int v,⟨⟨by decide,by decide⟩,_,rfl⟩,?_⟩
    rintro _ ⟨l',rfl⟩;k_places
    rw[ss]
    exact⟨_,l',_,_,rfl,by simp[hl],su hd (bR (by decide)) (bS (by decide))⟩
   ·rintro z ⟨xs,l,o,p,rfl,hl,hd⟩;k_places
    exact hR xs (by simpa using hl) hd
  ·refine⟨λd=>∃ v:Int,d= .int v/\0<=v/\v<2147483647,⟨by decide,_,rfl,bR (by decide),bS (by decide)⟩,?_⟩
   rintro _ ⟨Mw,rfl,s1,s2⟩;k_places
   refine⟨⟨by lia,by lia⟩,λi z=>∃ (xs:List Int) (sd:Int) (o:Option D),z=[some (.rol (ns.map D.int)),some (.int k),some (.int n),some (.int left),some (.own (xs.map D.int)),o,some (.int sd)]/\xs.length=i/\Drawn xs/\0<=sd/\sd<2147483647,⟨[],Mw,_,rfl,rfl,(λx hx=>by cases hx),s1,s2⟩,?_,?_⟩
   ·rintro i x z hi ⟨xs,sd,o,rfl,hl,hd,s1,s2⟩;k_places
    have m6:i<n:=by simpa using(Fb.mp hi).1
    have ex:x= .int (i:Int):=by simp[m6] at hi;exact hi.symm
    subst ex
    refine⟨λd=>∃ v:Int,d= .int v/\0<=v/\v<2147483647,⟨.inr ⟨by decide,by decide⟩,by decide,ns,_,rfl,by lia,by decide,_,rfl,bR (by decide),bS (by decide)⟩,?_⟩
    rintro _ ⟨Pw,rfl,t1,t2⟩;k_places
    refine⟨.inr ⟨by decide,by decide⟩,by decide,by decide,by simp;lia,?_⟩
    rw[ss]
    exact⟨_,Pw,_,rfl,by simp[hl],su hd (bR (by decide)) (bS (by decide)),t1,t2⟩
   ·rintro z ⟨xs,sd,o,rfl,hl,hd,_⟩;k_places
    exact hR xs (by simpa using hl) hd
abbrev nZ(V:Bx):Prop:=V.D 1 "_law_lines" kW AO
theorem Do(T:V.T "_law_lines" kU kW)(uA:V.m "range")(uC:V.m "len"):nZ V:=by
 refine Tx.okDW T sc__law_lines (λds R h=>?_) (λf cdv A outer s H E J hr=>⟨_,((ah (ai 1 sc__law_lines.nd (am ad (av (af (aa 0) ad) ad)))
   (ah (ai 2 sc__law_lines.nd (am ad (av (af (aa 0) ad) ad)))
   (ah (fC (bt (av (af (aa 0) ad) ad) ad) (ah (ai 1 sc__law_lines.nd (am ad (av (af (aa 0) ad) ad)))
    (ak (ai 2 sc__law_lines.nd (am ad (av (af (aa 0) ad) ad))))) aW)
   (ah (ai 3 sc__law_lines.nd (af (br (ac ax (ac ax (ac ax (ac ax ae))))) (av (af (aa 0) ad) ad)))
   (ah (jJ 4 sc__law_lines.nd ae)
   (ah (cg 5 PassesOwn.never rfl sc__law_lines.nd uA (aa 2) (ah (ai 6 sc__law_lines.nd ax)
    (ah (cg 7 PassesOwn.never rfl sc__law_lines.nd uA (aa 1) (ah (ai 8 sc__law_lines.nd (am (ar (aa 5) (aa 1)) (aa 7)))
     (ah (ai 9 sc__law_lines.nd (av (aV (af (aa 0) (am ad (aV (aa 8) ad))) (af (br (ac ad (ac ad ae))) (av (aa 8) ad))) ad))
     (ak (ai 6 sc__law_lines.nd (am (aa 6) (af (aa 3) (av (aa 9) (cQ uC (ac (aa 3) ae))))))))))
    (ak (gv 4 (aa 6))))))
   (fB 4 (ak (au (aa 4))))))))))),λds R h=>?_⟩)
 ·obtain⟨_,rfl,_⟩:=h;rfl
 ·obtain⟨xs,rfl,hl,hd,hR⟩:=h
  have w6:∀ k:Nat,k<40->atI (xs.map D.int) (k:Int)=some (.int (cell xs k)):=λk hk=>cy (by lia) (by simpa using(by lia:k<xs.length))
  have a0:atI (xs.map D.int) 0=some (.int (cell xs 0)):=w6 0 (by decide)
  have a1:atI (xs.map D.int) 1=some (.int (cell xs 1)):=w6 1 (by decide)
  have a2:atI (xs.map D.int) 2=some (.int (cell xs 2)):=w6 2 (by decide)
  have a3:atI (xs.map D.int) 3=some (.int (cell xs 3)):=w6 3 (by decide)
  clear hl
  refine⟨λd=>∃ v:Int,d= .int v/\1<=v/\v<=8,⟨_,a0,by decide,_,rfl,by lia⟩,?_⟩
  rintro _ ⟨w0,rfl,Px⟩;k_places
  refine⟨λd=>∃ v:Int,d= .int v/\1<=v/\v<=8,⟨_,a1,by decide,_,rfl,by lia⟩,?_⟩
  rintro _ ⟨t0,rfl,Qp⟩;k_places
  refine⟨λz=>∃ w t:Nat,z=[some (.lst (xs.map D.int)),some (.int w),some (.int t),none,none,none,none,none,none,none]/\(1<=w/\w<=8)/\(1<=t/\t<=8),⟨_,a2,by decide,ite2 (λ_=>?_) (λ_=>?_)⟩,?_⟩
  ·refine⟨λd=>∃ v:Nat,d= .int v/\1<=v/\v<=8,⟨_,a0,by decide,(1+cell xs 0 % 8).toNat,by rw[Fl (by lia)],by lia⟩,?_⟩
   rintro _ ⟨w,rfl,hw⟩;k_places
   refine⟨λd=>∃ v:Nat,d= .int v/\1<=v/\v<=8,⟨_,a1,by decide,(1+cell xs 1 % 8).toNat,by rw[Fl (by lia)],by lia⟩,?_⟩
   rintro _ ⟨t,rfl,ht⟩;k_places
   exact⟨w,t,rfl,hw,ht⟩
  ·obtain⟨w,rfl⟩:∃ w:Nat,w0=(w:Int):=⟨w0.toNat,by lia⟩
   obtain⟨t,rfl⟩:∃ t:Nat,t0=(t:Int):=⟨t0.toNat,by lia⟩
   exact⟨w,t,rfl,by lia,by lia⟩
  rintro _ ⟨w,t,rfl,hw,ht⟩;k_places
  obtain⟨sg,es,hs⟩:=AK (cell xs 3)
  refine⟨λd=>d= .str sg,⟨by simp,_,a3,by decide,_,es,rfl⟩,?_⟩;rintro _ rfl;k_places
  refine⟨by simp,?_⟩
  refine⟨⟨by lia,by lia⟩,λk z=>∃ (L:List Str) (o1 o2 o3 o4 o5:Option D),z=[some (.lst (xs.map D.int)),some (.int w),some (.int t),some (.str sg),some (.own (L.map D.str)),o1,o2,o3,o4,o5]/\L.length=k/\∀ l∈L,l.length=w/\∀ c∈cs l,aG c,⟨[],_,_,_,_,_,rfl,rfl,(λx hx=>by cases hx)⟩,?_,?_⟩
  ·rintro j x z hj ⟨L,o1,o2,o3,o4,o5,rfl,hL,pc⟩;k_places
   have JC:j<t:=by simpa using(Fb.mp hj).1
   have ex:x= .int (j:Int):=by simp[JC] at hj;exact hj.symm
   subst ex
   refine⟨λd=>d= .str "",rfl,?_⟩;rintro _ rfl;k_places
   refine⟨⟨by lia,by lia⟩,λi z=>∃ (ln:Str) (o3 o4 o5:Option D),z=[some (.lst (xs.map D.int)),some (.int w),some (.int t),some (.str sg),some (.own (L.map D.str)),some (.int j),some (.str ln),o3,o4,o5]/\ln.length=i/\∀ c∈cs ln,aG c,⟨_,_,_,_,rfl,rfl,(λc hc=>by rw[sy] at hc;cases hc)⟩,?_,?_⟩
   ·rintro i y z hi ⟨ln,o3,o4,o5,rfl,Le,Mx⟩;k_places
    have m6:i<w:=by simpa using(Fb.mp hi).1
    have ey:y= .int (i:Int):=by simp[m6] at hi;exact hi.symm
    subst ey
    have pb:=bx (a:=(j:Int)) (d:=(w:Int)) (A:=7) (B:=8) (by lia) (by lia)
    have pn:0<=(j:Int)*(w:Int):=G4 (by lia) (by lia)
    refine⟨λd=>∃ p:Nat,d= .int p/\p<=63,⟨.inl ⟨by lia,by lia⟩,((j:Int)*w+i).toNat,by rw[Fl (by lia)],by lia⟩,?_⟩
    rintro _ ⟨p,rfl,hp⟩;k_places
    obtain⟨m,em,hm⟩:=AL (p:Int)
    have ap:=w6 (8+p / 2) (by lia)
    have ec:((8+p / 2:Nat):Int)=8+(p:Int) / 2:=by lia
    rw[ec] at ap
    refine⟨λd=>∃ v:Int,d= .int v,⟨⟨by decide,by decide⟩,_,ap,by simp,by decide,_,em,⟨by lia,by lia⟩,by decide,_,rfl⟩,?_⟩
    rintro _ ⟨v,rfl⟩;k_places
    obtain⟨c,⟨h1,h2⟩,h3⟩:=AF hs v
    refine⟨λd=>∃ x:Str,d= .str x/\x.length=i+1/\∀ c∈cs x,aG c,⟨h1,by have:=hs.1;lia,c,⟨h1,h2⟩,?_,_,rfl,AM Le Mx h3⟩,?_⟩
    ·rw[Le];show i+1<=1000000;lia
    rintro _ ⟨x,rfl,g1,g2⟩;k_places
    exact⟨x,_,_,_,rfl,g1,g2⟩
   ·rintro z ⟨ln,o3,o4,o5,rfl,Le,Mx⟩;k_places
    have Mz:ln.length=w:=by simpa using Le
    refine⟨by simp[hL];lia,?_⟩
    rw[AN]
    refine⟨_,_,_,_,_,_,rfl,by simp[hL],λl hl=>?_⟩
    rcases Fk.mp hl with q|q
    ·exact pc l q
    ·rw[ES.mp q];exact⟨Mz,Mx⟩
  ·rintro z ⟨L,o1,o2,o3,o4,o5,rfl,hL,pc⟩;k_places
   exact hR L (Rows.of ht.1 ht.2 (by simpa using hL) hw.1 hw.2 pc)
abbrev oa(V:Bx):Prop:=V.D 1 "_law_shift_pair" kY AE
theorem Dp(T:V.T "_law_shift_pair" kX kY)(uD:V.m "int"):oa V:=by
 refine Tx.okDW T sc__law_shift_pair (λds R h=>?_) (λf cdv A outer s H E J hr=>⟨_,((ah (bg (bt (av (aV (af (aa 0) ad) ad) ad) ad) (ak (au (br (ac (aJ (ac (am ad (av (af (aa 0) ad) ad)) (ac ad ae))) (ac (aJ (ac ad (ac (am ad (av (af (aa 0) ad) ad)) ae))) ae))))) aW)
   (ah (bg (bt (av (aV (af (aa 0) ad) ad) ad) ad) (ak (au (br (ac (aJ (ac (am ad (av (af (aa 0) ad) ad)) (ac ad ae))) (ac (aJ (ac (bf (av (af (aa 0) ad) ad) ad) (ac (am ad (av (af (aa 0) ad) ad)) ae))) ae))))) aW)
   (ah (ai 1 sc__law_shift_pair.nd (bf (av (af (aa 0) ad) ad) ad))
   (ah (ai 2 sc__law_shift_pair.nd (bf (av (af (aa 0) ad) ad) ad))
   (ah (ai 3 sc__law_shift_pair.nd (bf (av (af (aa 0) ad) ad) ad))
   (ah (ai 4 sc__law_shift_pair.nd (bf (av (af (aa 0) ad) ad) ad))
   (ah (ai 1 sc__law_shift_pair.nd (am (aa 1) (fE uD (ac (gp (cH (aa 1) ad) (gm (cH (aa 2) ad))) ae))))
   (ah (bg (bt (ar (aa 1) (aa 4)) (ar (aa 2) (aa 3))) (ak (au (br (ac (aJ (ac (aa 1) (ac (aa 2) ae))) (ac (aJ (ac (bW (aa 2)) (ac (aa 1) ae))) ae))))) aW)
   (ak (au (br (ac (aJ (ac (aa 1) (ac (aa 2) ae))) (ac (aJ (ac (aa 3) (ac (aa 4) ae))) ae)))))))))))))),λds R h=>?_⟩)
 ·obtain⟨_,rfl,_⟩:=h;rfl
 ·obtain⟨xs,rfl,hl,hd,hR⟩:=h
  have a3:=cy (xs:=xs) (k:=3) (by decide) (show 3<xs.length by lia)
  have a4:=cy (xs:=xs) (k:=4) (by decide) (show 4<xs.length by lia)
  have a5:=cy (xs:=xs) (k:=5) (by decide) (show 5<xs.length by lia)
  have a6:=cy (xs:=xs) (k:=6) (by decide) (show 6<xs.length by lia)
  have a7:=cy (xs:=xs) (k:=7) (by decide) (show 7<xs.length by lia)
  generalize cell xs 3=x3 at*
  generalize cell xs 4=x4 at*
  generalize cell xs 5=x5 at*
  generalize cell xs 6=x6 at*
  generalize cell xs 7=x7 at*
  clear hl hd
  refine⟨_,a3,⟨by decide,by decide⟩,by decide,ite2 (λ_=>?_) (λ_=>?_)⟩
  ·refine⟨_,a4,by decide,by simp,_,a5,by decide,by simp,by simp,hR _ _ _ _ (by lia) (by lia) (by lia) (by lia) ?_⟩
   have p:0<(1+x4 % 6)*(1+x5 % 6):=Fc (by lia) (by lia)
   lia
  refine⟨_,a3,⟨by decide,by decide⟩,by decide,ite2 (λ_=>?_) (λ_=>?_)⟩
  ·refine⟨_,a4,by decide,by simp,_,a6,by decide,_,a5,by decide,by simp,by simp,hR _ _ _ _ (by lia) (by lia) (by lia) (by lia) ?_⟩
   have p:0<(1+x4 % 6)*(1+x5 % 4):=Fc (by lia) (by lia)
   lia
  refine⟨λd=>∃ v:Int,d= .int v/\-12<=v/\v<=12,⟨_,a4,by decide,_,rfl,by lia⟩,?_⟩
  rintro _ ⟨a,rfl,ha⟩;k_places
  refine⟨λd=>∃ v:Int,d= .int v/\-12<=v/\v<=12,⟨_,a5,by decide,_,rfl,by lia⟩,?_⟩
  rintro _ ⟨b,rfl,hb⟩;k_places
  refine⟨λd=>∃ v:Int,d= .int v/\-12<=v/\v<=12,⟨_,a6,by decide,_,rfl,by lia⟩,?_⟩
  rintro _ ⟨c,rfl,hc⟩;k_places
  refine⟨λd=>∃ v:Int,d= .int v/\-12<=v/\v<=12,⟨_,a7,by decide,_,rfl,by lia⟩,?_⟩
  rintro _ ⟨d,rfl,f9⟩;k_places
  refine⟨λx=>∃ v:Int,x= .int v/\(-12<=v/\v<=12)/\¬ (v=0/\b=0),ite2 (λe=>?_) (λe=>?_),?_⟩
  ·have e':=of_decide_eq_true e
   by_cases N5:b=0
   ·refine⟨_,rfl,?_⟩
    subst e' N5
    simp
   ·refine⟨_,rfl,?_⟩
    subst e'
    simp[N5]
  ·have e':=of_decide_eq_false (Fs.mpr e)
   refine⟨_,rfl,?_⟩
   simp
   lia
  rintro _ ⟨a,rfl,ha,Ko⟩;k_places
  refine⟨.inl (i64 ha.1 ha.2),.inl (i64 hb.1 hb.2),ite2 (λe=>?_) (λe=>?_)⟩
  ·refine⟨by simp,by simp,by simp,hR a b (-b) a ha hb (by lia) ha ?_⟩
   rw[FO]
   intro z
   have s1:0<=a*a:=sq0 a
   have s2:0<=b*b:=sq0 b
   have z1:a*a=0:=by omega
   have z2:b*b=0:=by omega
   exact Ko ⟨(Gs.mp z1).elim id id,(Gs.mp z2).elim id id⟩
  ·have e':=of_decide_eq_false (Fs.mpr e)
   exact⟨by simp,by simp,by simp,hR a b c d ha hb hc f9 e'⟩
abbrev oe(V:Bx):Prop:=V.D 1 "_law_motif_text" lf AQ
theorem Dq(T:V.T "_law_motif_text" kZ lf)(uK:V.m "str"):oe V:=by
 refine Tx.okDW T sc__law_motif_text (λds R h=>?_) (λf cdv A outer s H E J hr=>⟨_,((ah (ai 3 sc__law_motif_text.nd (am (am (am (am (am (am (am ax (cS uK (ac (af (aa 1) ad) ae))) ax) (cS uK (ac (af (aa 1) ad) ae))) ax) (cS uK (ac (af (aa 2) ad) ae))) ax) (cS uK (ac (af (aa 2) ad) ae))))
   (ak (au (am (am (am ax (qN (aa 0))) (aa 3)) ax))))),λds R h=>?_⟩)
 ·obtain⟨_,_,_,_,_,rfl,_⟩:=h;rfl
 ·obtain⟨L,a,b,c,d,rfl,hL,ha,hb,hc,hd,hR⟩:=h
  have la:=bu ha
  have lb:=bu hb
  have lc:=bu hc
  have ld:=bu hd
  have l1:(";":Str).length=1:=rfl
  have l2:(",":Str).length=1:=rfl
  have l3:("[":Str).length=1:=rfl
  have l4:("]":Str).length=1:=rfl
  have ls:=sB hL
  have lj:=StrLaws.join_length_le "/" L
  unfold B12 at ha hb hc hd
  refine⟨λx=>x= .str ((((((((";":Str)++(toString a:String))++",")++(toString b:String))++";")++(toString c:String))++",")++(toString d:String)),⟨_,rfl,by lia,?_,?_,_,rfl,by lia,?_,?_,_,rfl,by lia,?_,?_,_,rfl,by lia,?_,rfl⟩,?_⟩
  ·lia
  ·rw[aB];lia
  ·rw[aB,aB];lia
  ·rw[aB,aB,aB];lia
  ·rw[aB,aB,aB,aB];lia
  ·rw[aB,aB,aB,aB,aB];lia
  ·rw[aB,aB,aB,aB,aB,aB];lia
  rintro _ rfl;k_places
  have lg:(Txt.join "/" L).length<=72:=by
   have e:Txt.join "/" L=Str.join "/" L:=StrLaws.glued_eq_join _ _
   rw[e];exact E4 lj ls
  refine⟨L,ki L,by lia,?_,?_,?_,hR⟩
  ·lia
  ·repeat rw[aB]
   lia
  ·repeat rw[aB]
   lia
abbrev og(V:Bx):Prop:=V.D 3 "_law_motif" ll AS
theorem Dr(T:V.T "_law_motif" lh ll)(JD:iV V)(MB:nZ V)(MC:oa V)(MD:oe V):og V:=by
 refine Tx.okDW T sc__law_motif (λds R h=>?_) (λf cdv A outer s H E J hr=>⟨_,((ah (ai 2 sc__law_motif.nd (aq JD hr (ac (aa 0) (ac (aa 1) (ac ad ae)))))
   (ah (ai 3 sc__law_motif.nd (aq MB hr (ac (aa 2) ae)))
   (ah (yn rfl (aq MC hr (ac (aa 2) ae)) (dg_cons 4 sc__law_motif.nd (dg_cons 5 sc__law_motif.nd dD)))
   (ah (ai 6 sc__law_motif.nd (aJ (ac (aa 3) (ac (aa 4) (ac (aa 5) (ac (aJ (ac ad (ac ad (ac ad (ac ad (ac ad (ac ad ae))))))) (ac (br (ac ad (ac ad (ac ad (ac ad (ac ad (ac ad (ac ad ae)))))))) ae)))))))
   (ak (au (br (ac (aq MD hr (ac (aa 3) (ac (aa 4) (ac (aa 5) ae)))) (ac ad (ac (br (ac (aa 6) ae)) ae))))))))))),λds R h=>?_⟩)
 ·obtain⟨_,_,rfl,_⟩:=h;rfl
 ·obtain⟨ns,k,rfl,hk,hR⟩:=h
  refine⟨λx=>∃ xs:List Int,x= .lst (xs.map D.int)/\xs.length=40/\Drawn xs,⟨ns,k,40,rfl,hk,by decide,λxs h1 h2=>⟨xs,rfl,h1,h2⟩⟩,?_⟩
  rintro _ ⟨xs,rfl,hl,hd⟩;k_places
  refine⟨λx=>∃ L:List Str,x= .lst (L.map D.str)/\Rows L,⟨xs,rfl,by lia,hd,λL h=>⟨L,rfl,h⟩⟩,?_⟩
  rintro _ ⟨L,rfl,hL⟩;k_places
  refine⟨xs,rfl,by lia,hd,λa b c d ha hb hc f9 hn=>⟨rfl,?_⟩⟩
  refine⟨λx=>x=(bp L a b c d).D,⟨by simp,by simp,by simp,rfl⟩,?_⟩;rintro _ rfl;k_places
  exact⟨L,a,b,c,d,rfl,hL,ha,hb,hc,f9,by simp,by simp,hR L a b c d hL ha hb hc f9 hn⟩
abbrev oh(V:Bx):Prop:=V.D 1 "_law_wrapped" lm A5
theorem Ds(T:V.T "_law_wrapped" hZ lm)(uK:V.m "str")(MF:V.m "list")(uD:V.m "int"):oh V:=by
 refine Tx.okDW T sc__law_wrapped (λds R h=>?_) (λf cdv A outer s H E J hr=>⟨_,((ah (bg (qD (af (aa 0) ad) ad) (ak (au (aa 0))) aW)
   (ah (ai 2 sc__law_wrapped.nd (bf (av (aV (aa 1) ad) ad) ad))
   (ah (ai 3 sc__law_wrapped.nd (bf (av (aV (aa 1) ad) ad) ad))
   (ah (ai 4 sc__law_wrapped.nd (am ad (av (aV (aa 1) ad) ad)))
   (ah (ai 5 sc__law_wrapped.nd (am ad (av (aV (aa 1) ad) ad)))
   (ah (ai 6 sc__law_wrapped.nd (am (am (am (am ax (cS uK (ac (aa 2) ae))) ax) (cS uK (ac (aa 3) ae))) ax))
   (ah (ai 7 sc__law_wrapped.nd (af (br (ac ax (ac ax (ac (aa 6) (ac (am (am ax (cS uK (ac (aa 4) ae))) (cS uK (ac (aa 5) ae))) ae))))) (av (aa 1) ad)))
   (ah (ai 8 sc__law_wrapped.nd (br (ac (aJ (ac (bW ad) (ac ad (ac ad (ac ad (ac ad (ac ad ae))))))) (ac (aJ (ac ad (ac ad (ac (bW ad) (ac ad (ac ad (ac ad ae))))))) ae))))
   (ah (ai 8 sc__law_wrapped.nd (am (aa 8) (br (ac (aJ (ac ad (ac ad (ac ad (ac ad (ac (bW (aa 2)) (ac (bW (aa 3)) ae))))))) (ac (aJ (ac ad (ac ad (ac ad (ac ad (ac ad (ac ad ae))))))) ae)))))
   (ah (ai 9 sc__law_wrapped.nd (af (aa 8) (av (aa 1) ad)))
   (ah (jJ 10 sc__law_wrapped.nd ae)
   (ah (gw 11 PassesOwn.never rfl sc__law_wrapped.nd (af (aa 0) ad) (ah (qJ rfl (af (aa 11) ad) (dg_cons 12 sc__law_wrapped.nd (dg_cons 13 sc__law_wrapped.nd (dg_cons 14 sc__law_wrapped.nd (dg_cons 15 sc__law_wrapped.nd (dg_cons 16 sc__law_wrapped.nd (dg_cons 17 sc__law_wrapped.nd dD)))))))
    (ah (ai 18 sc__law_wrapped.nd (aJ (ac (am (ar (aa 12) (af (aa 9) ad)) (ar (aa 13) (af (aa 9) ad))) (ac (am (ar (aa 12) (af (aa 9) ad)) (ar (aa 13) (af (aa 9) ad))) ae))))
    (ah (ai 18 sc__law_wrapped.nd (am (aa 18) (aJ (ac (am (ar (aa 14) (af (aa 9) ad)) (ar (aa 15) (af (aa 9) ad))) (ac (am (ar (aa 14) (af (aa 9) ad)) (ar (aa 15) (af (aa 9) ad))) ae)))))
    (ah (ai 16 sc__law_wrapped.nd (am (am (aa 16) (ar (aa 12) (af (aa 9) ad))) (ar (aa 13) (af (aa 9) ad))))
    (ah (ai 17 sc__law_wrapped.nd (am (am (aa 17) (ar (aa 14) (af (aa 9) ad))) (ar (aa 15) (af (aa 9) ad))))
    (ah (ai 19 sc__law_wrapped.nd (ya MF (ac (af (aa 11) ad) ae)))
    (ah (fC (bt (av (aa 1) ad) ad) (ak (yr 19 rfl (compScope (by change cx _ (ag hZ) ["_law_part","_law_draw","_law_across","_law_down","_law_old","_law_new","_law_shift","_law_head","_law_ways","_law_by","_law_leaves","_law_leaf","_law_a","_law_b","_law_c","_law_d","_law_e","_law_f","_law_way","_law_hues"] _=true;decide+kernel)) sc__law_wrapped.nd (af (aa 11) ad) (λcl s0 H0 fp=>(af (br (ac (aa 20) (ac (aa 5) ae))) (fE uD (ac (cH (aa 20) (aa 4)) ae)))))) aW)
    (ak (gv 10 (aJ (ac (af (aa 11) ad) (ac (af (aa 11) ad) (ac (af (aa 11) ad) (ac (am (aa 18) (aJ (ac (aa 16) (ac (aa 17) ae)))) (ac (aa 19) ae))))))))))))))))
   (fB 10 (ak (au (br (ac (am (aa 7) (af (aa 0) ad)) (ac (am (af (aa 0) ad) ad) (ac (aa 10) ae)))))))))))))))))))),λds R h=>?_⟩)
 ·obtain⟨_,_,rfl,_⟩:=h;rfl
 ·obtain⟨p,draw,rfl,wf,hd,ht,hW⟩:=h
  refine⟨_,rfl,ite2 (λc=>?_) (λc=>?_)⟩
  ·have c':=of_decide_eq_true c
   exact hW.1 (by lia)
  have c':=of_decide_eq_false (Fs.mpr c)
  have f9:p.depth<5:=by lia
  refine⟨λd=>∃ v:Int,d= .int v/\B12 v,⟨⟨by decide,by decide⟩,by decide,_,rfl,by unfold B12;lia⟩,?_⟩
  rintro _ ⟨A,rfl,hA⟩;simp only[Fh,Fi,aS]
  refine⟨λd=>∃ v:Int,d= .int v/\B12 v,⟨⟨by decide,by decide⟩,by decide,_,rfl,by unfold B12;lia⟩,?_⟩
  rintro _ ⟨B,rfl,hB⟩;simp only[Fh,Fi,aS]
  refine⟨λd=>∃ v:Int,d= .int v/\1<=v/\v<=6,⟨⟨by decide,by decide⟩,by decide,_,rfl,by lia⟩,?_⟩
  rintro _ ⟨d8,rfl,ho⟩;simp only[Fh,Fi,aS]
  refine⟨λd=>∃ v:Int,d= .int v/\1<=v/\v<=6,⟨⟨by decide,by decide⟩,by decide,_,rfl,by lia⟩,?_⟩
  rintro _ ⟨new,rfl,hn⟩;simp only[Fh,Fi,aS]
  have l1:("s":Str).length=1:=rfl
  have l2:(",":Str).length=1:=rfl
  have l3:(":":Str).length=1:=rfl
  have l4:("h":Str).length=1:=rfl
  have lA:=bu hA
  have lB:=bu hB
  have lo:=cV ho
  have ln:=cV hn
  obtain⟨hs,b0,b1,b2,b3,b4,b5,e1,e2,hb,hl,hR⟩:=A2 hW f9 (k:=0) hA hB ho hn (by lia)
  unfold B12 at hA hB
  refine⟨λx=>x= .str ((((("s":Str)++(toString A:String))++",")++(toString B:String))++":"),⟨by lia,?_,?_,by lia,?_,?_,rfl⟩,?_⟩
  ·lia
  ·rw[aB];lia
  ·rw[aB,aB];lia
  ·rw[aB,aB,aB];lia
  rintro _ rfl;simp only[Fh,Fi,aS]
  refine⟨λx=>x= .str hs,⟨by lia,?_,by lia,?_,by simp,by decide,_,e1,rfl⟩,?_⟩
  ·lia
  ·rw[aB];lia
  rintro _ rfl;simp only[Fh,Fi,aS]
  refine⟨λx=>x= .lst [D.tup [.int (-1),.int 0,.int 0,.int 1,.int 0,.int 0],D.tup [.int 0,.int 1,.int (-1),.int 0,.int 0,.int 0]],⟨by simp,by simp,by simp,rfl⟩,?_⟩;rintro _ rfl;simp only[Fh,Fi,aS]
  refine⟨λx=>x= .lst ([D.tup [.int (-1),.int 0,.int 0,.int 1,.int 0,.int 0],D.tup [.int 0,.int 1,.int (-1),.int 0,.int 0,.int 0]]++[D.tup [.int 1,.int 0,.int 0,.int 1,.int (-A),.int (-B)],D.tup [.int 1,.int 0,.int 0,.int 1,.int 0,.int 0]]),⟨by simp,by simp,by simp,by simp,rfl⟩,?_⟩;rintro _ rfl;simp only[Fh,Fi,aS]
  refine⟨λx=>x= .tup [.int b0,.int b1,.int b2,.int b3,.int b4,.int b5],⟨by decide,_,e2,rfl⟩,?_⟩;rintro _ rfl;simp only[Fh,Fi,aS]
  refine⟨by simp,?_⟩
  generalize D.str ((((("s":Str)++(toString A:String))++",")++(toString B:String))++":")=sD
  generalize D.lst ([D.tup [.int (-1),.int 0,.int 0,.int 1,.int 0,.int 0],D.tup [.int 0,.int 1,.int (-1),.int 0,.int 0,.int 0]]++[D.tup [.int 1,.int 0,.int 0,.int 1,.int (-A),.int (-B)],D.tup [.int 1,.int 0,.int 0,.int 1,.int 0,.int 0]])=wD
  clear e1 e2 hW lA lB lo ln l1 l2 l3 l4 hA hB c'
  refine⟨_,rfl,λk z=>∃ Jg Jh t_ u7 MG MH MI MJ JE:Option D,z=[some p.D,some (.int draw),some (.int A),some (.int B),some (.int d8),some (.int new),some sD,some (.str hs),some wD,some (.tup [.int b0,.int b1,.int b2,.int b3,.int b4,.int b5]),some (.own (((p.leaves.take k).map (Leaf.T (decide (draw % 4=3)) d8 new b0 b1 b2 b3 b4 b5)).map Leaf.D)),Jg,Jh,t_,u7,MG,MH,MI,MJ,JE],⟨_,_,_,_,_,_,_,_,_,rfl⟩,?_,?_⟩
  ·rintro k v z hk ⟨Jg,Jh,t_,u7,MG,MH,MI,MJ,JE,rfl⟩;k_places
   rw[E8] at hk
   have n8:k<p.leaves.length:=by
    rcases Gb k p.leaves.length with q|q
    ·exact q
    ·rw[FN q] at hk;cases hk
   have JA:p.leaves[k]?=some p.leaves[k]:=Fj n8
   rw[JA] at hk
   cases hk
   obtain⟨gd,nr⟩:=Pat.leaf_good wf p.leaves[k] (FD n8)
   have b7:(p.leaves.take k).length<=1000:=by rw[GA];have:=Pat.leaves_32 hd;lia
   generalize p.leaves[k]=l at JA gd nr
   obtain⟨r0,r1,r2,r3⟩:=nr.unit
   obtain⟨q0,q1,q2,q3,q4,q5⟩:=hb
   refine⟨_,rfl,rfl,?_⟩
   simp only[Fh,Fi,aS]
   refine⟨λx=>x= .tup [.int (l.w0*b0+l.w1*b2),.int (l.w0*b1+l.w1*b3)],⟨_,rfl,.inr (n64 q0),_,rfl,.inr (n64 q2),_,rfl,.inr (n64 q1),_,rfl,.inr (n64 q3),by simp,rfl⟩,?_⟩;rintro _ rfl;simp only[Fh,Fi,aS]
   refine⟨λx=>x= .tup [.int (l.w0*b0+l.w1*b2),.int (l.w0*b1+l.w1*b3),.int (l.w2*b0+l.w3*b2),.int (l.w2*b1+l.w3*b3)],⟨_,rfl,.inr (n64 q0),_,rfl,.inr (n64 q2),_,rfl,.inr (n64 q1),_,rfl,.inr (n64 q3),by simp,by simp,rfl⟩,?_⟩;rintro _ rfl;simp only[Fh,Fi,aS]
   refine⟨λx=>x= .int (l.w4+l.w0*b4+l.w1*b5),⟨_,rfl,.inr (n64 q4),_,rfl,.inr (n64 q5),rfl⟩,?_⟩;rintro _ rfl;simp only[Fh,Fi,aS]
   refine⟨λx=>x= .int (l.w5+l.w2*b4+l.w3*b5),⟨_,rfl,.inr (n64 q4),_,rfl,.inr (n64 q5),rfl⟩,?_⟩;rintro _ rfl;simp only[Fh,Fi,aS]
   refine⟨λx=>x= .lst (l.hues.map D.int),⟨_,rfl,rfl⟩,?_⟩;rintro _ rfl;simp only[Fh,Fi,aS]
   refine⟨λz=>∃ JE:List Int,JE=(Leaf.T (decide (draw % 4=3)) d8 new b0 b1 b2 b3 b4 b5 l).hues/\z=[some p.D,some (.int draw),some (.int A),some (.int B),some (.int d8),some (.int new),some sD,some (.str hs),some wD,some (.tup [.int b0,.int b1,.int b2,.int b3,.int b4,.int b5]),some (.own (((p.leaves.take k).map (Leaf.T (decide (draw % 4=3)) d8 new b0 b1 b2 b3 b4 b5)).map Leaf.D)),some l.D,some (.int l.w0),some (.int l.w1),some (.int l.w2),some (.int l.w3),some (.int (l.w4+l.w0*b4+l.w1*b5)),some (.int (l.w5+l.w2*b4+l.w3*b5)),some (.tup [.int (l.w0*b0+l.w1*b2),.int (l.w0*b1+l.w1*b3),.int (l.w2*b0+l.w3*b2),.int (l.w2*b1+l.w3*b3)]),some (.lst (JE.map D.int))],⟨by decide,ite2 (λc=>?_) (λc=>?_)⟩,?_⟩
   ·have c3:=of_decide_eq_true c
    refine⟨λx=>x= .lst ((l.hues.map (bB d8 new)).map D.int),⟨_,rfl,by rw[E1,gd.many];decide,λk ys=>ys=((l.hues.take k).map (bB d8 new)).map D.int,rfl,?_,?_⟩,?_⟩
    ·rintro k' x ys hx hl rfl
     rw[E8] at hx
     cases e:l.hues[k']? with
     |none=>rw[e] at hx;cases hx
     |some hu=>
      rw[e] at hx
      cases hx
      refine⟨by simp,_,A3 hu d8 new,?_⟩
      dsimp only
      rw[km e]
      simp
    ·rintro ys hl rfl
     rw[E1,GL]
    ·rintro _ rfl;k_places
     exact⟨_,by simp[Leaf.T,c3,Leaf.dye,Leaf.by],rfl⟩
   ·have c3:=of_decide_eq_false (Fs.mpr c)
    exact⟨_,by simp[Leaf.T,c3,Leaf.by],rfl⟩
   rintro _ ⟨hu,Py,rfl⟩;k_places
   refine⟨_,rfl,_,rfl,_,rfl,by simp,by simp,by simp,by rw[E1,E1];lia,?_⟩
   have eT:(D.tup [.lst (l.rows.map D.str),.tup [.int l.a,.int l.b],.tup [.int l.c,.int l.d],.tup ([.int (l.w0*b0+l.w1*b2),.int (l.w0*b1+l.w1*b3),.int (l.w2*b0+l.w3*b2),.int (l.w2*b1+l.w3*b3)]++[.int (l.w4+l.w0*b4+l.w1*b5),.int (l.w5+l.w2*b4+l.w3*b5)]),.lst (hu.map D.int)])=(Leaf.T (decide (draw % 4=3)) d8 new b0 b1 b2 b3 b4 b5 l).D:=by
    rw[Py]
    by_cases c3:draw % 4=3
    ·simp[Leaf.T,c3,Leaf.D,Leaf.dye,Leaf.by]
    ·simp[Leaf.T,c3,Leaf.D,Leaf.by]
   have e9:((p.leaves.take (k+1)).map (Leaf.T (decide (draw % 4=3)) d8 new b0 b1 b2 b3 b4 b5)).map Leaf.D=((p.leaves.take k).map (Leaf.T (decide (draw % 4=3)) d8 new b0 b1 b2 b3 b4 b5)).map Leaf.D++[(Leaf.T (decide (draw % 4=3)) d8 new b0 b1 b2 b3 b4 b5 l).D]:=by
    rw[km JA,Fv,Fv,E9,E9,FX,FX]
   rw[e9,<- eT]
   exact⟨_,_,_,_,_,_,_,_,_,rfl⟩
  ·rintro z ⟨Jg,Jh,t_,u7,MG,MH,MI,MJ,JE,rfl⟩;k_places
   rw[E1,GL]
   refine⟨_,rfl,by lia,_,rfl,by simp,hR⟩
abbrev oi(V:Bx):Prop:=V.D 5 "_law_pattern" lq Be
theorem Dt(T:V.T "_law_pattern" lp lq)(uA:V.m "range")(JD:iV V)(Lf:og V)(Lg:oh V)(Ji:iT V):oi V:=by
  refine Tx.okDW T sc__law_pattern (λds R h=>?_) (λf cdv A outer s H E J hr=>⟨_,((ah (ai 2 sc__law_pattern.nd (aq JD hr (ac (aa 0) (ac (aa 1) (ac ad ae)))))
      (ah (ai 3 sc__law_pattern.nd (aq Lf hr (ac (aa 0) (ac (am (aa 1) ad) ae))))
      (ah (cg 4 PassesOwn.never rfl sc__law_pattern.nd uA (av (af (aa 2) ad) ad) (ah (ai 5 sc__law_pattern.nd (af (aa 2) (am ad (ar ad (aa 4)))))
        (ak (fC (bt (av (aa 5) ad) ad) (ak (ai 3 sc__law_pattern.nd (aq Lg hr (ac (aa 3) (ac (aV (aa 5) ad) ae))))) (ah (ai 6 sc__law_pattern.nd (aq Lf hr (ac (aa 0) (ac (am (am (aa 1) ad) (ar ad (aa 4))) ae))))
         (ah (fC (bt (av (aV (aa 5) ad) ad) ad) (ak (ai 6 sc__law_pattern.nd (aq Lg hr (ac (aa 6) (ac (af (aa 2) (am ad (ar ad (aa 4)))) ae))))) aW)
         (ak (ai 3 sc__law_pattern.nd (af (br (ac (aq Ji hr (ac (aa 3) (ac (aa 6) ae))) (ac (aq Ji hr (ac (aa 6) (ac (aa 3) ae))) ae))) (av (aV (aa 5) ad) ad))))))))))
      (ak (au (aa 3))))))),λds R h=>?_⟩)
  · obtain⟨_,_,rfl,_⟩:=h;rfl
  · obtain⟨ns,k,rfl,hk,hR⟩:=h
    refine⟨λx=>∃ xs:List Int,x= .lst (xs.map D.int)/\xs.length=13/\Drawn xs,⟨ns,k,13,rfl,hk,by decide,λxs h1 h2=>⟨xs,rfl,h1,h2⟩⟩,?_⟩
    rintro _ ⟨xs,rfl,hl,hd⟩;k_places
    refine⟨λx=>∃ p:Pat,x=p.D/\p.Ok,⟨ns,k+2,rfl,by lia,λL a b c d h1 h2 h3 h4 h5 h6=>⟨.mot L a b c d,rfl,⟨h1,h2,h3,h4,h5,h6⟩,by simp[Pat.depth],Pat.fits_mot h2 h3 h4 h5 h6⟩⟩,?_⟩
    rintro _ ⟨p0,rfl,Pz⟩;k_places
    have a0:=cy (xs:=xs) (k:=0) (by decide) (show 0<xs.length by lia)
    have h7:=bR (a:=cell xs 0) (show(0:Int)<7 by decide)
    have h8:=bS (a:=cell xs 0) (show(0:Int)<7 by decide)
    refine⟨_,a0,by decide,⟨by lia,by lia⟩,λi z=>∃ (p:Pat) (o1 o2 o3:Option D),z=[some (.rol (ns.map D.int)),some (.int k),some (.lst (xs.map D.int)),some p.D,o1,o2,o3]/\p.Ok,⟨p0,_,_,_,rfl,Pz⟩,?_,?_⟩
    · rintro i v z hi ⟨p,o1,o2,o3,rfl,ok⟩;k_places
      obtain⟨m6,rfl⟩:=cm hi
      have a1:=cy (xs:=xs) (k:=1+2*(i:Int)) (by lia) (by lia)
      have a2:=cy (xs:=xs) (k:=2+2*(i:Int)) (by lia) (by lia)
      generalize cell xs (1+2*(i:Int))=st at a1
      generalize cell xs (2+2*(i:Int))=sv at a2
      refine⟨λx=>x= .int st,⟨.inr ⟨by lia,by lia⟩,_,a1,rfl⟩,?_⟩;rintro _ rfl;k_places
      refine⟨λz=>∃ (p:Pat) (o3:Option D),z=[some (.rol (ns.map D.int)),some (.int k),some (.lst (xs.map D.int)),some p.D,some (.int i),some (.int st),o3]/\p.Ok,⟨by decide,ite2 (λc=>?_) (λc=>?_)⟩,?_⟩
      · refine⟨λx=>∃ p:Pat,x=p.D/\p.Ok,⟨⟨by decide,by decide⟩,p,_,rfl,ok.wf,ok.deep,by have:=Pat.text_short ok.wf ok.deep;lia,Wraps.of ok λq hq=>⟨q,rfl,hq⟩⟩,?_⟩
        rintro _ ⟨q,rfl,j5⟩;k_places
        exact⟨q,_,rfl,j5⟩
      · refine⟨λx=>∃ p:Pat,x=p.D/\p.Ok,⟨.inr ⟨by lia,by lia⟩,ns,k+4+2*(i:Int),rfl,by lia,λL a b c d h1 h2 h3 h4 h5 h6=>⟨.mot L a b c d,rfl,⟨h1,h2,h3,h4,h5,h6⟩,by simp[Pat.depth],Pat.fits_mot h2 h3 h4 h5 h6⟩⟩,?_⟩
        rintro _ ⟨q,rfl,j5⟩;k_places
        refine⟨λz=>∃ (q:Pat),z=[some (.rol (ns.map D.int)),some (.int k),some (.lst (xs.map D.int)),some p.D,some (.int i),some (.int st),some q.D]/\q.Ok,⟨⟨by decide,by decide⟩,by decide,ite2 (λc=>?_) (λc=>?_)⟩,?_⟩
        · refine⟨λx=>∃ p:Pat,x=p.D/\p.Ok,⟨.inr ⟨by lia,by lia⟩,_,a2,q,_,rfl,j5.wf,j5.deep,by have:=Pat.text_short j5.wf j5.deep;lia,Wraps.of j5 λq hq=>⟨q,rfl,hq⟩⟩,?_⟩
          rintro _ ⟨q,rfl,j5⟩;k_places
          exact⟨q,rfl,j5⟩
        · exact⟨q,rfl,j5⟩
        rintro _ ⟨q,rfl,j5⟩;k_places
        refine⟨λx=>∃ p:Pat,x=p.D/\p.Ok,?_,?_⟩
        · have d5:∀ r r':Pat,r.Ok->r'.Ok->∃ x,atI [r.D,r'.D] (st / 4 % 2)=some x/\∃ p:Pat,x=p.D/\p.Ok:=λr r' hr PB=>by
            rcases(by lia:st / 4 % 2=0\/st / 4 % 2=1) with e|e<;>rw[e]
            · exact⟨_,rfl,r,rfl,hr⟩
            · exact⟨_,rfl,r',rfl,PB⟩
          have N6:p.depth<5->q.depth<5->(Pat.over p q).Fits->(Pat.over p q).Ok:=λd1 d2 ft=>⟨⟨ok.wf,j5.wf⟩,by simp only[Pat.depth];lia,ft⟩
          have N7:q.depth<5->p.depth<5->(Pat.over q p).Fits->(Pat.over q p).Ok:=λd1 d2 ft=>⟨⟨j5.wf,ok.wf⟩,by simp only[Pat.depth];lia,ft⟩
          refine⟨p,q,rfl,ok.wf,j5.wf,ok.deep,j5.deep,?_,λd1 d2 ft=>?_⟩<;>refine⟨q,p,rfl,j5.wf,ok.wf,j5.deep,ok.deep,?_,λd3 d4 N8=>?_⟩<;>refine⟨by simp,⟨by decide,by decide⟩,by decide,?_⟩
          · exact d5 _ _ ok j5
          · exact d5 _ _ ok (N7 d3 d4 N8)
          · exact d5 _ _ (N6 d1 d2 ft) j5
          · exact d5 _ _ (N6 d1 d2 ft) (N7 d3 d4 N8)
        rintro _ ⟨q',rfl,MK⟩;k_places
        exact⟨q',_,rfl,MK⟩
      rintro _ ⟨q,o3,rfl,j5⟩;k_places
      exact⟨q,_,_,_,rfl,j5⟩
    · rintro z ⟨p,o1,o2,o3,rfl,ok⟩;k_places
      exact hR p ok
def Du:SpD:=λds R=>∃ (ns:List Int) (k:Int),ds=[.rol (ns.map D.int),.int k]/\0<=k/\∀ p:Pat,p.Ok->R p.D
abbrev oj(V:Bx):Prop:=V.D 6 "_law_great_pattern" lu Du
theorem Dv(T:V.T "_law_great_pattern" lr lu)(Ji:iT V)(Lh:oi V):oj V:=by
 refine Tx.okDW T CG (λds R h=>?_) (λf cdv A outer s H E J hr=>⟨_,((ak (au (aq Ji hr (ac (aq Lh hr (ac (aa 0) (ac (aa 1) ae))) (ac (aq Lh hr (ac (aa 0) (ac (am (aa 1) ad) ae))) ae)))))),λds R h=>?_⟩)
 ·obtain⟨_,_,rfl,_⟩:=h;rfl
 ·obtain⟨ns,k,rfl,hk,hR⟩:=h
  refine⟨ns,k,rfl,hk,λp1 k1=>⟨ns,k+20,rfl,by lia,λp2 k2=>?_⟩⟩
  exact⟨p1,p2,rfl,k1.wf,k2.wf,k1.deep,k2.deep,hR _ k1,λa b Mu=>hR _ ⟨⟨k1.wf,k2.wf⟩,by simp only[Pat.depth];lia,Mu⟩⟩
abbrev iW(V:Bx):Prop:=V.E 1 "WrongSign" lx BX
theorem Dw(T:V.Te "WrongSign" "WrongSign.__init__" lv lx)(JF:V.b "MotifError")(uBA:V.ea "WrongSign")(ML:V.xf "WrongSign" "place"):iW V:=by
 refine Txe.okE T CH (λds R h=>?_) (λf cdv A outer s H E J hr=>⟨_,((rh JF uBA (ac (aa 1) ae) (rj uBA ML (aa 1) rg))),λds R h=>?_⟩)
 ·obtain⟨i,rfl,_⟩:=h;rfl
 ·obtain⟨i,rfl,hR⟩:=h
  exact⟨by show(1:Nat)<=1000;decide,rfl,hR⟩
abbrev dm(V:Bx):Prop:=V.Q 1 "Reading" "may_take" lz Bk
theorem Dx(T:V.Tm "Reading" "may_take" "Reading.may_take" ly lz)(uC:V.m "len")(IB:V.a "Reading" "text")(uF:V.a "Reading" "place"):dm V:=by
 refine Txm.okM T CI (λds M R RX h=>?_) (λf cdv A outer s H E J hr hx=>⟨_,((aA (cb (mt_w (ze (gQ (aL uF (aj (aa 0))) (rE uC (aR (aL IB (aj (aa 0))) bo))) (zc (za (rB (aL IB (aj (aa 0))) (aL uF (aj (aa 0)))) (aj (aa 1)))))) (aE (aM (aj ax))) bQ)
   (aA (gT uF (aj (aa 0)) (gO (aL uF (aj (aa 0))) (aj ad)))
   (aE (aM (rB (aL IB (aj (aa 0))) (jU (aL uF (aj (aa 0))) (aj ad)))))))),λds M R RX b8 h=>?_⟩)
 ·obtain⟨_,_,_,_,_,rfl,_⟩:=h;rfl
 ·obtain⟨a,t,k,l,al,rfl,rfl,d6,hR⟩:=h
  refine⟨_,aN,_,db,_,aN,_,kq,E4 d6.sz (by decide),?_⟩
  cases l with
  |nil=>
   refine ifdT (by rw[d6.nil]) (ifT rfl ?_)
   exact hR
  |cons c l=>
   have lt:=d6.lt
   refine ifdF (by lia) ?_
   refine⟨_,aN,_,kq,_,aN,_,db,c,⟨E4 d6.sz (by decide),bV d6.get⟩,?_⟩
   refine ite2 (λe=>?_) (λe=>?_)
   ·have e2:(!(!(Builtin.Str.occurrences al ⟨#[c]⟩ 0 al.length 1).isEmpty))=true:=e
    rw[sU] at e2
    have nc:c ∉ cs al:=by simpa using e2
    rw[de nc,df nc] at hR
    exact hR
   ·have e2:¬ (!(!(Builtin.Str.occurrences al ⟨#[c]⟩ 0 al.length 1).isEmpty))=true:=e
    rw[sU] at e2
    have nc:c∈cs al:=by simpa using e2
    rw[dI nc,dJ nc] at hR
    refine⟨_,aN,_,db,_,aN,by show(2:Nat)<1000;decide,?_⟩
    rw[show mput (RdM a t k) a (.ins "Reading" (putD ("place":Str) (.int ((k:Int)+1)) (rdF t k)))=RdM a t (k+1) by rw[Bi];exact eQ]
    refine⟨_,aN,_,kq,_,aN,_,db,c,⟨E4 d6.sz (by decide),?_⟩,hR⟩
    rw[show((k+1:Nat):Int) - 1=(k:Int) by lia]
    exact bV d6.get
abbrev cE(V:Bx):Prop:=V.Q 3 "Reading" "take" lD Bl
theorem Dy(T:V.Tm "Reading" "take" "Reading.take" lC lD)(uF:V.a "Reading" "place")(uI:dm V)(uAC:iW V):cE V:=by
 refine Txm.okM T sc_Reading_take (λds M R RX h=>?_) (λf cdv A outer s H E J hr hx=>⟨_,((aA (bb 2 sc_Reading_take.nd (aX (CalMth.one uI) hx hr (aj (aa 0)) (aD (ac (aa 1) ae))))
   (aA (cb (ca (bt (aa 2) ax)) (aE (jX uAC hr hx rfl (aR (aL uF (aj (aa 0))) bo))) bQ)
   (aE (aM (aj (aa 2))))))),λds M R RX b8 h=>?_⟩)
 ·obtain⟨_,_,_,_,_,rfl,_⟩:=h;rfl
 ·obtain⟨a,t,k,l,al,rfl,rfl,d6,hR,hX⟩:=h
  refine⟨λd M'=>d= .str (mayS al l)/\M'=RdM a t (k+mayN al l),⟨_,ES.mpr rfl,_,aN,cL,a,t,k,l,al,rfl,rfl,d6,rfl,rfl⟩,?_⟩
  rintro _ _ ⟨rfl,rfl⟩;k_places
  have no:(∀ c l',l=c::l'->c ∉ cs al)->mayS al l=""/\mayN al l=0:=λh=>by
   cases l with
   |nil=>exact⟨rfl,rfl⟩
   |cons c l=>exact⟨de (h c l rfl),df (h c l rfl)⟩
  by_cases h:∃ c l',l=c::l'/\c∈cs al
  ·obtain⟨c,l',rfl,hc⟩:=h
   rw[dI hc,dJ hc]
   exact hR c l' rfl hc
  ·have h':∀ c l',l=c::l'->c ∉ cs al:=λc l' e hc=>h ⟨c,l',e,hc⟩
   obtain⟨e1,e2⟩:=no h'
   rw[e1,e2]
   refine⟨_,aN,_,db,by show(1:Nat)<=1000;decide,(k:Int),rfl,?_⟩
   rw[b8]
   exact hX h' _
abbrev ol(V:Bx):Prop:=V.MM 4 "line_from" lG Bs
theorem Dz(T:V.T "line_from" lF lG)(uA:V.m "range")(uL:V.gs "SIGNS" ".123456")(uB:cE V)(uI:dm V):ol V:=by
 refine Tx.okM T sc_line_from (λds M R RX h=>?_) (λf cdv A outer s H E J hr hx=>⟨_,((aA (bb 3 sc_line_from.nd (aj ax))
   (aA (zB 4 PassesOwn.leaving rfl sc_line_from.nd uA (aj (aa 2)) (aE (bb 3 sc_line_from.nd (gO (aj (aa 3)) (fJ (ca (dz (aa 4) (aa 1))) (aX (CalMth.one uB) hx hr (aj (aa 0)) (aD (ac (eF uL) ae))) (aX (CalMth.one uI) hx hr (aj (aa 0)) (aD (ac (eF uL) ae))))))))
   (aE (aM (aj (aa 3))))))),λds M R RX b8 h=>?_⟩)
 ·obtain⟨_,_,_,_,_,_,rfl,_⟩:=h;rfl
 ·obtain⟨a,t,k,l,n,m,rfl,rfl,d6,Qq,Qr,hR,hX⟩:=h
  refine⟨λd M'=>d= .str ""/\M'=RdM a t k,⟨rfl,rfl⟩,?_⟩
  rintro _ _ ⟨rfl,rfl⟩;k_places
  refine⟨⟨by lia,by lia⟩,λi z M'=>i<=m/\∃ col,z=[some (.ptr a),some (.int n),some (.int m),some (.str ⟨(sgPre i l).toArray⟩),col]/\M'=RdM a t (k+(sgPre i l).length)/\min i n<=(sgPre i l).length,⟨Fp _,none,rfl,rfl,by simp⟩,?_,?_⟩
  ·rintro i x z M' hi ⟨Qs,col,rfl,rfl,w9⟩;k_places
   obtain⟨Ik,rfl⟩:=cm hi
   have Ik:i<m:=by lia
   have PC:=gW i l
   rcases sgPre_succ i l with⟨c,l',h1,h2,h3,h4⟩|⟨l',h1,h2,h3⟩
   ·have c9:At t (k+(sgPre i l).length) (c::l'):=by have:=d6;rw[h1] at this;exact this.app
    refine⟨λd M'=>d= .str ⟨(sgPre (i+1) l).toArray⟩/\M'=RdM a t (k+(sgPre i l).length+1),?_,?_⟩
    ·refine ite2 (λ_=>?_) (λ_=>?_)
     ·refine⟨_,ES.mpr rfl,_,aN,bT,a,t,_,_,".123456",rfl,rfl,c9,λc' l2 e hc=>?_,λc_=>absurd (signs_is.mpr h3) (c_ c l' rfl)⟩
      cases e
      refine⟨by rw[dN,show(⟨#[c]⟩:Str).length=1 from rfl];lia,?_,rfl⟩
      rw[show(⟨#[c]⟩:Str)=⟨[c].toArray⟩ from rfl,eU,h4]
     ·refine⟨_,ES.mpr rfl,_,aN,cL,a,t,_,_,".123456",rfl,rfl,c9,?_⟩
      rw[dI (signs_is.mpr h3),dJ (signs_is.mpr h3)]
      refine⟨by rw[dN,show(⟨#[c]⟩:Str).length=1 from rfl];lia,?_,rfl⟩
      rw[show(⟨#[c]⟩:Str)=⟨[c].toArray⟩ from rfl,eU,h4]
    ·rintro _ _ ⟨rfl,rfl⟩;k_places
     refine⟨Ik,_,rfl,?_,?_⟩
     ·rw[h4,E2];rfl
     ·rw[h4,E2,h2];show _<=i+1;lia
   ·have c9:At t (k+(sgPre i l).length) l':=by have:=d6;rw[h1] at this;exact this.app
    have c_:∀ c l2,l'=c::l2->c ∉ cs ".123456":=λc l2 q z=>by
     have:=h2 c l2 q
     rw[signs_is.mp z] at this
     cases this
    have w_:mayS ".123456" l'=""/\mayN ".123456" l'=0:=by
     cases l' with
     |nil=>exact⟨rfl,rfl⟩
     |cons c l2=>exact⟨de (c_ c l2 rfl),df (c_ c l2 rfl)⟩
    refine⟨λd M'=>d= .str ⟨(sgPre (i+1) l).toArray⟩/\M'=RdM a t (k+(sgPre i l).length)/\¬ i<n,?_,?_⟩
    ·refine ite2 (λc=>?_) (λc=>?_)
     ·have c':=of_decide_eq_true c
      refine⟨_,ES.mpr rfl,_,aN,bT,a,t,_,_,".123456",rfl,rfl,c9,λc' l2 e hc=>absurd hc (c_ c' l2 e),λ_ M'=>?_⟩
      rw[b8]
      have:=hX (by rw[h3 m (by lia)];lia) M'
      rw[h3 m (by lia)] at this
      exact this
     ·have c':¬ i<n:=λz=>c (decide_eq_true (by lia))
      refine⟨_,ES.mpr rfl,_,aN,cL,a,t,_,_,".123456",rfl,rfl,c9,?_⟩
      rw[w_.1,w_.2]
      refine⟨by rw[dN,show("":Str).length=0 from rfl];lia,?_,rfl,c'⟩
      rw[show("":Str)=⟨([]:List Nat).toArray⟩ from rfl,eU,FA,h3 (i+1) (by lia)]
    ·rintro _ _ ⟨rfl,rfl,pc⟩;k_places
     refine⟨Ik,_,rfl,by rw[h3 (i+1) (by lia)],?_⟩
     rw[h3 (i+1) (by lia)]
     lia
  ·intro z M' hz
   rw[cz,Hj] at hz
   obtain⟨_,col,rfl,rfl,w9⟩:=hz
   exact hR (by lia)
abbrev om(V:Bx):Prop:=V.MM 5 "lines_from" lJ Bv
theorem DB(T:V.T "lines_from" lH lJ)(uC:V.m "len")(Li:ol V)(Lj:V.gi "LONGEST" 8)(uI:dm V):om V:=by
  refine Tx.okM T sc_lines_from (λds M R RX h=>?_) (λf cdv A outer s H E J hr hx=>⟨_,((aA (bb 1 sc_lines_from.nd (zh (aR (aZ (CalMM.frame Li) hx hr (aD (ac (aa 0) (ac ad (ac (fG Lj) ae))))) bo)))
      (aA (bb 2 sc_lines_from.nd (rE uC (aR (zE (aj (aa 1)) (aj ad)) bo)))
      (aA (zA PassesOwn.leaving (mt_w (zd (rC (zD uC (aj (aa 1))) (aj (fG Lj))) (zb (gQ (aX (CalMth.one (CalMth.frame uI)) hx hr (aj (aa 0)) (aD (ac ax ae))) (aj ax))))) (aE (ck (zG (aj (aa 1)) (aZ (CalMM.frame Li) hx hr (aD (ac (aa 0) (ac (aa 2) (ac (aa 2) ae)))))))))
      (rK 1 (aE (aM (aj (aa 1))))))))),λds M R RX b8 h=>?_⟩)
  · obtain⟨_,_,_,_,rfl,_⟩:=h;rfl
  · obtain⟨a,t,k,l,rfl,rfl,d6,hR,hX⟩:=h
    obtain⟨l1,Lk,hg⟩:=sgPre_split 8 l
    have N9:=sgPre_sign 8 l
    have Il:=gW 8 l
    refine⟨λd M'=>∃ p,p≠a/\1<=(sgPre 8 l).length/\d= .ptr p/\M'=(p,.lst [.str ⟨(sgPre 8 l).toArray⟩])::RdM a t (k+(sgPre 8 l).length),⟨[],RdM a t k,rfl,a,t,k,l,1,8,rfl,rfl,d6,by decide,by decide,λh1=>⟨by show 1<=1000;decide,λp hp=>?_⟩,λh1 M'=>?_⟩,?_⟩
    · exact⟨p,λe=>hp (by rw[e];exact ES.mpr rfl),h1,rfl,rfl⟩
    · rw[b8]
      refine hX _ (λr=>?_) _
      have e0:sgPre 8 l=[]:=G3 (by lia)
      rw[e0] at Lk hg ⊢
      rw[Lk]
      have:=sX (w:=1) (n:=0) (x:=[]) (l:=l1) (λc z=>nomatch z) (by decide) (by decide) (λ_=>rfl) (hg.resolve_left (by decide)) r k
      refine walk_bad (λz=>nomatch z) λc l' q=>?_
      rw[dH]
      unfold cK
      rw[hg.resolve_left (by decide) c l' q,if_neg E6]
      exact if_pos (.inl rfl)
    rintro _ _ ⟨p,PD,h1,rfl,rfl⟩;k_places
    refine⟨λd M'=>d= .int (sgPre 8 l).length/\M'=(p,.lst [.str ⟨(sgPre 8 l).toArray⟩])::RdM a t (k+(sgPre 8 l).length),⟨_,cM,_,rfl,by rw[dN];lia,by rw[dN],rfl⟩,?_⟩
    rintro _ _ ⟨rfl,rfl⟩;k_places
    refine⟨λm z M'=>∃ (L:List (List Nat)) (w0:Nat) (l2:List Nat),RowsL L (sgPre 8 l).length/\l=rowsL L++l2/\LinAt w0 (sgPre 8 l).length L.length l2/\(∀ r,walk (.lin 0 0 0::r) l k=walk (.lin w0 (sgPre 8 l).length (L.length - 1)::r) l2 (k+(rowsL L).length))/\m=8 - L.length/\z=[some (.ptr a),some (.ptr p),some (.int (sgPre 8 l).length)]/\M'=(p,.lst (lstD L))::RdM a t (k+(rowsL L).length),⟨7,[sgPre 8 l],0,l1,⟨by simp,h1,Il,λx hx=>?_⟩,Lk,⟨h1,by simp,λ_=>hg,λz=>absurd z (by simp)⟩,λr=>?_,rfl,rfl,rfl⟩,?_⟩
    · rw[ES.mp hx];exact⟨rfl,N9⟩
    · have:=eN (w:=0) (k:=0) (r:=r) (sgPre 8 l) 0 l1 k N9 (by simp;lia)
      rw[<- Lk,Gv] at this
      exact this
    rintro m z M' ⟨L,w0,l2,hL,IA,Jj,hw,rfl,rfl,rfl⟩;k_places
    have v9:=hL.many
    have m4:At t (k+(rowsL L).length) l2:=by have:=d6;rw[IA] at this;exact this.app
    have Kq:(lstD L).length=L.length:=by simp[lstD]
    have done:(L.length=8\/∀ l',l2≠47::l')->R (.lst (lstD L)) (RdM a t (k+(rowsL L).length)):=λst=>hR L _ l2 hL IA λr=>by rw[hw r,Bu Jj (by lia) st]
    refine⟨_,cM,?_⟩
    rw[Kq]
    refine ite2 (λc=>?_) (λc=>?_)
    · have c':L.length<8:=by have:=of_decide_eq_true c;lia
      refine⟨_,ES.mpr rfl,_,Bt PD,cL,[(p,_)],RdM a t _,rfl,a,t,_,l2,"/",rfl,rfl,m4,?_⟩
      by_cases N_:∃ l',l2=47::l'
      · obtain⟨l3,rfl⟩:=N_
        have Oa:(47:Nat)∈cs "/":=by decide
        rw[dI Oa,dJ Oa]
        obtain⟨l4,MN,PF⟩:=sgPre_split (sgPre 8 l).length l3
        have MP:=sgPre_sign (sgPre 8 l).length l3
        have PH:=gW (sgPre 8 l).length l3
        refine⟨⟨_,cM⟩,[(p,_)],RdM a t _,rfl,a,t,_,l3,(sgPre 8 l).length,(sgPre 8 l).length,rfl,rfl,m4.next,ER _,Il,λh2=>?_,λh2 M'=>?_⟩
        · have b7:(sgPre (sgPre 8 l).length l3).length=(sgPre 8 l).length:=by lia
          refine⟨_,cM,by rw[Kq];lia,?_⟩
          refine⟨8 - (L.length+1),by lia,L++[sgPre (sgPre 8 l).length l3],(sgPre 8 l).length,l4,⟨by rw[E2];simp;lia,h1,Il,λx hx=>?_⟩,?_,⟨h1,by rw[E2];simp,λz=>?_,λ_=>rfl⟩,λr=>?_,by rw[E2];rfl,rfl,?_⟩
          · rcases Fk.mp hx with q|q
            · exact hL.each x q
            · rw[ES.mp q];exact⟨b7,MP⟩
          · rw[gX L _ (λq=>by rw[q] at v9;simp at v9),Fz,FE,<- MN];exact IA
          · rw[E2] at z;simp at z;rw[z] at v9;simp at v9
          · rw[hw r,sW Jj c' r]
            have:=eN (w:=(sgPre 8 l).length) (k:=L.length) (r:=r) (sgPre (sgPre 8 l).length l3) 0 l4 (k+(rowsL L).length+1) MP (by rw[if_pos (by lia)];lia)
            rw[<- MN,Gv,b7] at this
            rw[this,gX L _ (λq=>by rw[q] at v9;simp at v9),E2,E2]
            show walk (.lin _ _ L.length::r) l4 _=walk (.lin _ _ (L.length+1 - 1)::r) l4 _
            congr 1
            rw[EW,b7]
            lia
          · show mput ((p,MO.lst (lstD L))::RdM a t _) p _=_
            rw[sV,gX L _ (λq=>by rw[q] at v9;simp at v9)]
            show _::RdM a t _=_
            congr 1
            · simp[lstD]
            · congr 1
              simp
              lia
        · rw[b8]
          refine hX _ (λr=>?_) _
          rw[hw r,sW Jj c' r]
          have:=sX (w:=(sgPre 8 l).length) (n:=L.length) MP h2 Il (λq=>by lia) (PF.resolve_left (by lia)) r (k+(rowsL L).length+1)
          rw[<- MN] at this
          exact this
      · have c_:∀ l',l2≠47::l':=λl' q=>N_ ⟨l',q⟩
        have w_:mayS "/" l2=""/\mayN "/" l2=0:=by
          cases l2 with
          |nil=>exact⟨rfl,rfl⟩
          |cons c l3=>
            have:c ∉ cs "/":=λq=>c_ l3 (by rw[show c=47 from ES.mp q])
            exact⟨de this,df this⟩
        rw[w_.1,w_.2]
        refine⟨_,cM,?_⟩
        rw[show mdel ([(p,MO.lst (lstD L))]++RdM a t (k+(rowsL L).length+0)) p=RdM a t (k+(rowsL L).length) from ku]
        exact done (.inr c_)
    · have c':L.length=8:=by
        have:¬ ((L.length:Int)<8):=λz=>c (decide_eq_true z)
        lia
      refine⟨_,cM,?_⟩
      rw[ku]
      exact done (.inl c')
abbrev oq(V:Bx):Prop:=V.MM 4 "number_from" lL Bq
theorem DC(T:V.T "number_from" lK lL)(uD:V.m "int")(uI:dm V)(uB:cE V):oq V:=by
  refine Tx.okM T sc_number_from (λds M R RX h=>?_) (λf cdv A outer s H E J hr hx=>⟨_,((aA (cb (gQ (aX (CalMth.one uI) hx hr (aj (aa 0)) (aD (ac ax ae))) (aj ax)) (aE (aM (aj ad))) bQ)
      (aA (bb 1 sc_number_from.nd (gO (aX (CalMth.one uI) hx hr (aj (aa 0)) (aD (ac ax ae))) (aX (CalMth.one uB) hx hr (aj (aa 0)) (aD (ac ax ae)))))
      (aA (rJ (ca (bX (yV (aa 1) (ac ax ae)))) (aE (bb 1 sc_number_from.nd (gO (aj (aa 1)) (aX (CalMth.one uI) hx hr (aj (aa 0)) (aD (ac ax ae)))))) bQ)
      (aE (aM (aj (fE uD (ac (aa 1) ae))))))))),λds M R RX b8 h=>?_⟩)
  · obtain⟨_,_,_,_,rfl,_⟩:=h;rfl
  · obtain⟨a,t,k,l,rfl,rfl,d6,hR,hX⟩:=h
    refine⟨_,ES.mpr rfl,_,aN,cL,a,t,k,l,"0",rfl,rfl,d6,?_⟩
    by_cases z0:∃ l',l=48::l'
    · obtain⟨l',rfl⟩:=z0
      have e0:(48:Nat)∈cs "0":=by decide
      rw[dI e0,dJ e0]
      refine hR 0 l' (by unfold B12;lia) ?_ λe r=>?_
      · rw[show numL 0=[48] by decide+kernel];rfl
      · rw[show numL 0=[48] by decide+kernel,aF (st':= .sign e::r) (by simp[step,aI,aK])];rfl
    have n0:mayS "0" l=""/\mayN "0" l=0:=by
      cases l with
      |nil=>exact⟨rfl,rfl⟩
      |cons c l=>
        have:c ∉ cs "0":=λq=>z0 ⟨l,by rw[show c=48 from ES.mp q]⟩
        exact⟨de this,df this⟩
    rw[n0.1,n0.2]
    obtain⟨pre,l1,hp,rfl,hS,hN,h0⟩:∃ pre l1,(pre=[]\/pre=[45])/\l=pre++l1/\mayS "-" l=⟨pre.toArray⟩/\mayN "-" l=pre.length/\(pre=[]->∀ c l',l1=c::l'->c≠48/\c≠45):=by
      by_cases z1:∃ l',l=45::l'
      · obtain⟨l',rfl⟩:=z1
        exact⟨[45],l',.inr rfl,rfl,rfl,rfl,λq=>nomatch q⟩
      · refine⟨[],l,.inl rfl,rfl,?_⟩
        cases l with
        |nil=>exact⟨rfl,rfl,λ_ c l' q=>nomatch q⟩
        |cons c l=>
          have:c ∉ cs "-":=λq=>z1 ⟨l,by rw[show c=45 from ES.mp q]⟩
          refine⟨de this,df this,λ_ c' l' q=>?_⟩
          cases q
          exact⟨λe=>z0 ⟨l,by rw[e]⟩,λe=>z1 ⟨l,by rw[e]⟩⟩
    have c9:=d6.app
    refine⟨λd M'=>∃ c l2,l1=c::l2/\(49<=c/\c<=57)/\d= .str ⟨(pre++[c]).toArray⟩/\M'=RdM a t (k+pre.length+1),?_,?_⟩
    · refine⟨_,ES.mpr rfl,_,aN,cL,a,t,k,_,"-",rfl,rfl,d6,?_⟩
      rw[hS,hN]
      refine⟨_,ES.mpr rfl,_,aN,bT,a,t,k+pre.length,l1,"123456789",rfl,rfl,c9,λc l2 e hc=>?_,λc_ M'=>?_⟩
      · refine⟨?_,c,l2,e,digits19.mp hc,?_,rfl⟩
        · rcases hp with rfl|rfl<;>simp[Str.length]
        · rw[show(⟨#[c]⟩:Str)=⟨[c].toArray⟩ from rfl,eU]
      · rw[b8]
        exact hX _ (Bo hp rfl (λc l' q=>λz=>c_ c l' q (digits19.mpr z)) h0 k) M'
    · rintro _ _ ⟨c,l2,rfl,hc,rfl,rfl⟩;k_places
      have m4:=c9.next
      refine⟨λz M'=>∃ x l3,((c=49/\∃ d,(48<=d/\d<=50)/\x=[d])\/(x=[]/\(c=49->∀ d l',l3=d::l'->¬ (48<=d/\d<=50))))/\l2=x++l3/\z=[some (.ptr a),some (.str ⟨(pre++c::x).toArray⟩)]/\M'=RdM a t (k+pre.length+1+x.length),?_,?_⟩
      · show if Txt.endswith ⟨(pre++[c]).toArray⟩ "1"=true then _ else _
        rw[Bp]
        refine ite2 (λe=>?_) (λe=>?_)
        · have e':=of_decide_eq_true e
          by_cases z2:∃ d l3,l2=d::l3/\(48<=d/\d<=50)
          · obtain⟨d,l3,rfl,hd⟩:=z2
            refine⟨λv M'=>v= .str ⟨(pre++[c,d]).toArray⟩/\M'=RdM a t (k+pre.length+1+1),⟨_,ES.mpr rfl,_,aN,cL,a,t,_,_,"012",rfl,rfl,m4,?_⟩,?_⟩
            · rw[dI (digits02.mpr hd),dJ (digits02.mpr hd)]
              refine⟨?_,?_,rfl⟩
              · rcases hp with rfl|rfl<;>simp[Str.length]
              · rw[show(⟨#[d]⟩:Str)=⟨[d].toArray⟩ from rfl,eU];simp
            · rintro _ _ ⟨rfl,rfl⟩;k_places
              exact⟨[d],l3,.inl ⟨e',d,hd,rfl⟩,rfl,rfl,rfl⟩
          · have c_:∀ d l',l2=d::l'->¬ (48<=d/\d<=50):=λd l' q z=>z2 ⟨d,l',q,z⟩
            have hm:mayS "012" l2=""/\mayN "012" l2=0:=by
              cases l2 with
              |nil=>exact⟨rfl,rfl⟩
              |cons d l2=>exact⟨de (λq=>c_ d l2 rfl (digits02.mp q)),df (λq=>c_ d l2 rfl (digits02.mp q))⟩
            refine⟨λv M'=>v= .str ⟨(pre++[c]).toArray⟩/\M'=RdM a t (k+pre.length+1),⟨_,ES.mpr rfl,_,aN,cL,a,t,_,_,"012",rfl,rfl,m4,?_⟩,?_⟩
            · rw[hm.1,hm.2]
              refine⟨?_,?_,rfl⟩
              · rcases hp with rfl|rfl<;>simp[Str.length,show(Str.ofString "").cps.size=0 from rfl]
              · rw[show("":Str)=⟨([]:List Nat).toArray⟩ from rfl,eU];simp
            · rintro _ _ ⟨rfl,rfl⟩;k_places
              exact⟨[],l2,.inr ⟨rfl,λ_=>c_⟩,rfl,rfl,rfl⟩
        · have e':¬ c=49:=λz=>e (decide_eq_true z)
          exact⟨[],l2,.inr ⟨rfl,λz=>absurd z e'⟩,rfl,rfl,rfl⟩
      · rintro _ _ ⟨x,l3,hx,rfl,rfl,rfl⟩;k_places
        have hn:isNumL (pre++c::x):=by
          rcases hx with⟨rfl,d,hd,rfl⟩|⟨rfl,_⟩
          · rcases hp with rfl|rfl
            · exact .inr (.inl ⟨d,hd,rfl⟩)
            · exact .inr (.inr (.inr ⟨d,hd,rfl⟩))
          · rcases hp with rfl|rfl
            · exact .inl ⟨c,by lia,rfl⟩
            · exact .inr (.inr (.inl ⟨c,hc,rfl⟩))
        obtain⟨v,hv,ev⟩:=Bf hn
        refine⟨v,⟨?_,?_⟩,?_⟩
        · rw[<- ev];exact kr hv
        · rw[<- ev]
          have:=bu hv
          rw[<- bq] at this ⊢
          show(numL v).length<=640
          exact E4 this (by decide)
        · have:=hR v l3 hv (by rw[ev];simp) λe r=>by rw[ev];exact Bn hp hc hx k e r rfl
          rw[ev] at this
          have e2:k+(pre++c::x).length=k+pre.length+1+x.length:=by simp;lia
          rw[e2] at this
          exact this
abbrev fR(V:Bx):Prop:=V.MM 5 "shift_from" lN Br
theorem DD(T:V.T "shift_from" lM lN)(Ll:oq V)(uB:cE V):fR V:=by
 refine Tx.okM T sc_shift_from (λds M R RX h=>?_) (λf cdv A outer s H E J hr hx=>⟨_,((aA (bb 1 sc_shift_from.nd (aZ Ll hx hr (aD (ac (aa 0) ae))))
   (aA (ck (aX (CalMth.one uB) hx hr (aj (aa 0)) (aD (ac ax ae))))
   (aE (aM (zg (aR (aj (aa 1)) (aR (aZ Ll hx hr (aD (ac (aa 0) ae))) bo)))))))),λds M R RX b8 h=>?_⟩)
 ·obtain⟨_,_,_,_,rfl,_⟩:=h;rfl
 ·obtain⟨a,t,k,l,rfl,rfl,d6,hR,hX⟩:=h
  refine⟨λd M'=>∃ x l1,B12 x/\l=numL x++l1/\(∀ e r,walk (.num:: .sign e::r) l k=walk (.sign e::r) l1 (k+(numL x).length))/\d= .int x/\M'=RdM a t (k+(numL x).length),⟨a,t,k,l,rfl,rfl,d6,λx l' hx e hw=>⟨x,l',hx,e,hw,rfl,rfl⟩,λj hj M'=>?_⟩,?_⟩
  ·rw[b8];exact hX j (λr=>hj _) M'
  rintro _ _ ⟨x,l1,i6,rfl,o_,rfl,rfl⟩;k_places
  have c9:=d6.app
  refine⟨_,ES.mpr rfl,_,aN,bT,a,t,_,l1,",",rfl,rfl,c9,λc l2 e hc=>?_,λc_ M'=>?_⟩
  ·have ec:c=44:=ES.mp hc
   subst ec
   subst e
   refine⟨a,t,_,l2,rfl,rfl,c9.next,λy l' hy e hw=>?_,λj hj M'=>?_⟩
   ·subst e
    refine⟨by simp,hR x y l' i6 hy rfl λe r=>?_⟩
    rw[o_ 44 _,dM,hw e r]
   ·rw[b8]
    refine hX j (λr=>?_) M'
    rw[o_ 44 _,dM,hj]
  ·rw[b8]
   refine hX _ (λr=>?_) M'
   rw[o_ 44 _,dL λl' q=>c_ 44 l' q (by decide)]
abbrev iX(V:Bx):Prop:=V.D 1 "levelled" lQ Ax
theorem DF(T:V.T "levelled" lP lQ):iX V:=by
 refine Tx.okDW T sc_levelled (λds R h=>?_) (λf cdv A outer s H E J hr=>⟨_,((ah (fD PassesOwn.never (cw (af (aa 1) ad) ad) (ah (ai 2 sc_levelled.nd (xx (af (aa 0) ad) (af (aa 1) ad)))
    (ah (ai 3 sc_levelled.nd (aJ (ac (bf (af (aa 0) ad) (ar (aa 2) (af (aa 1) ad))) (ac (bf (af (aa 0) ad) (ar (aa 2) (af (aa 1) ad))) ae))))
    (ah (ai 0 sc_levelled.nd (aa 1))
    (ak (ai 1 sc_levelled.nd (aa 3)))))))
   (ah (fC (dz (af (aa 0) ad) ad) (ak (ai 0 sc_levelled.nd (aJ (ac (bW (af (aa 0) ad)) (ac (bW (af (aa 0) ad)) ae))))) aW)
   (ak (au (aJ (ac (aa 0) (ac (aa 1) ae)))))))),λds R h=>?_⟩)
 ·obtain⟨a,b,c,d,rfl,_⟩:=h;rfl
 ·obtain⟨a,b,c,d,rfl,hb,hd,hR⟩:=h
  refine⟨λm z=>∃ (f0 f1 s0 s1:Int) (t r:Option D),z=[some (.tup [.int f0,.int f1]),some (.tup [.int s0,.int s1]),t,r]/\Uni a b c d f0 f1 s0 s1/\f1.natAbs<1073741824/\s1.natAbs<1073741824/\m=s1.natAbs,⟨_,a,b,c,d,none,none,rfl,Uni.refl a b c d,hb,hd,rfl⟩,?_⟩
  rintro m z ⟨f0,f1,s0,s1,t,r,rfl,hu,hf,hs,rfl⟩;k_places
  refine⟨_,rfl,ite2 (λcc=>?_) (λcc=>?_)⟩
  ·have c':¬ s1=0:=by simpa using cc
   obtain⟨g1,g2⟩:=fdm f1 s1 c'
   refine⟨λd=>d= .int (f1.fdiv s1),⟨_,rfl,_,rfl,⟨c',hs⟩,rfl⟩,?_⟩;rintro _ rfl;k_places
   refine⟨λd=>d= .tup [.int (f0 - f1.fdiv s1*s0),.int (f1 - f1.fdiv s1*s1)],⟨_,rfl,_,rfl,.inl ⟨by lia,by lia⟩,_,rfl,_,rfl,.inl ⟨by lia,by lia⟩,by simp,rfl⟩,?_⟩;rintro _ rfl;k_places
   refine⟨λd=>d= .tup [.int s0,.int s1],rfl,?_⟩;rintro _ rfl;k_places
   refine⟨λd=>d= .tup [.int (f0 - f1.fdiv s1*s0),.int (f1 - f1.fdiv s1*s1)],rfl,?_⟩;rintro _ rfl;k_places
   exact⟨_,g1,s0,s1,_,_,_,_,rfl,hu.step _,hs,by lia,rfl⟩
  ·have c':s1=0:=by simpa using cc
   subst c'
   refine⟨λz=>∃ p0 p1:Int,z=[some (.tup [.int p0,.int p1]),some (.tup [.int s0,.int 0]),t,r]/\Lev a b c d p0 p1 s0,⟨_,rfl,ite2 (λe=>?_) (λe=>?_)⟩,?_⟩
   ·have e':=of_decide_eq_true e
    refine⟨λd=>d= .tup [.int (-f0),.int (-f1)],⟨_,rfl,_,rfl,by simp,rfl⟩,?_⟩;rintro _ rfl;k_places
    exact⟨_,_,rfl,by lia,hu.neg⟩
   ·have e':=of_decide_eq_false (Fs.mpr e)
    exact⟨_,_,rfl,by lia,hu⟩
   ·rintro _ ⟨p0,p1,rfl,hL⟩;k_places
    exact⟨by simp,hR p0 p1 s0 hL⟩
abbrev iY(V:Bx):Prop:=V.D 2 "spread" lU Ay
theorem DG(T:V.T "spread" lR lU)(uN:V.m "abs")(JG:iX V):iY V:=by
 refine Tx.okDW T sc_spread (λds R h=>?_) (λf cdv A outer s H E J hr=>⟨_,((ah (bg (bt (ar (af (aa 0) ad) (af (aa 1) ad)) (ar (af (aa 0) ad) (af (aa 1) ad))) (ak (au cG)) aW)
   (ah (ai 2 sc_spread.nd (aq JG hr (ac (aa 0) (ac (aa 1) ae))))
   (ah (ai 3 sc_spread.nd (eg uN (ac (af (af (aa 2) ad) ad) ae)))
   (ak (au (aJ (ac (aa 3) (ac (af (af (aa 2) ad) ad) (ac (av (af (af (aa 2) ad) ad) (aa 3)) ae)))))))))),λds R h=>?_⟩)
 ·obtain⟨a,b,c,d,rfl,_⟩:=h;rfl
 ·obtain⟨a,b,c,d,rfl,ha,hb,hc,hd,hN,hR⟩:=h
  refine⟨_,rfl,_,rfl,.inl ⟨by lia,by lia⟩,_,rfl,_,rfl,.inl ⟨by lia,by lia⟩,ite2 (λe=>?_) (λe=>?_)⟩
  ·exact hN (of_decide_eq_true e)
  ·have e':=of_decide_eq_false (Fs.mpr e)
   refine⟨λx=>∃ p0 p1 q0:Int,x= .tup [.tup [.int p0,.int p1],.tup [.int q0,.int 0]]/\Lev a b c d p0 p1 q0,⟨a,b,c,d,rfl,hb,hd,λp0 p1 q0 hL=>⟨p0,p1,q0,rfl,hL⟩⟩,?_⟩
   rintro _ ⟨p0,p1,q0,rfl,hL⟩;k_places
   have hF:=fK e' hL
   refine⟨λx=>x= .int (if q0<0 then -q0 else q0),⟨_,rfl,_,rfl,rfl⟩,?_⟩;rintro _ rfl;k_places
   exact⟨_,rfl,_,rfl,_,rfl,_,rfl,hF.1,by simp,hR e' _ _ _ hF⟩
abbrev dR(V:Bx):Prop:=V.D 1 "home" lW Aw
theorem DH(T:V.T "home" lV lW):dR V:=by
 refine Tx.okDW T sc_home (λds R h=>?_) (λf cdv A outer s H E J hr=>⟨_,((ah (ai 3 sc_home.nd (af (aa 0) ad))
   (ah (ai 4 sc_home.nd (af (aa 0) ad))
   (ah (ai 5 sc_home.nd (af (aa 0) ad))
   (ak (au (aJ (ac (av (bf (aa 1) (ar (aV (aa 2) (aa 4)) (aa 5))) (aa 3)) (ac (av (aa 2) (aa 4)) ae))))))))),λds R h=>?_⟩)
 ·obtain⟨w,h,s,x,y,rfl,_⟩:=h;rfl
 ·obtain⟨w,h,s,x,y,rfl,hw,hh,y9,hs,m5,hR⟩:=h
  refine⟨λd=>d= .int w,⟨_,rfl,rfl⟩,?_⟩;rintro _ rfl;k_places
  refine⟨λd=>d= .int h,⟨_,rfl,rfl⟩,?_⟩;rintro _ rfl;k_places
  refine⟨λd=>d= .int s,⟨_,rfl,rfl⟩,?_⟩;rintro _ rfl;k_places
  exact⟨⟨hh,y9⟩,.inr ⟨by lia,by lia⟩,hw,hh,by simp,hR⟩
abbrev ot(V:Bx):Prop:=V.MM 2 "hues_by_home" lZ BB
theorem DJ(T:V.T "hues_by_home" lY lZ)(uX:V.m "enumerate")(uM:dR V)(uL:V.gs "SIGNS" ".123456"):ot V:=by
 refine Tx.okM T sc_hues_by_home (λds M R RX h=>?_) (λf cdv A outer s H E J hr hx=>⟨_,((aA (bb 2 sc_hues_by_home.nd zU)
   (aA (zL PassesOwn.leaving rfl uX (aj (aa 0)) (dg_cons 3 sc_hues_by_home.nd (dg_cons 4 sc_hues_by_home.nd dD)) (aE (zM PassesOwn.leaving rfl uX (aj (aa 4)) (dg_cons 5 sc_hues_by_home.nd (dg_cons 6 sc_hues_by_home.nd dD)) (aE (rJ (ca (cw (aa 6) ax)) (aE (ck (zX (qe hr) (aj (aa 2)) (aD (ac (aq uM hr (ac (aa 1) (ac (aa 5) (ac (aa 3) ae)))) (ac (yZ (eF uL) (ac (aa 6) ae)) ae)))))) bQ)))))
   (rK 2 (aE (aM (aj (aa 2)))))))),λds M R RX b8 h=>?_⟩)
 ·obtain⟨_,_,_,_,_,rfl,_⟩:=h;rfl
 ·obtain⟨L,wd,w,h,s,rfl,hL,hw,hh,y9,hs,m5,hR⟩:=h
  have PJ:=hL.w8
  refine⟨λd M'=>∃ p,p ∉ aw M/\d= .ptr p/\M'=(p,.dti [])::M,λp hp=>⟨p,hp,rfl,rfl⟩,?_⟩
  rintro _ _ ⟨p,hp,rfl,rfl⟩;k_places
  refine⟨λj z M'=>∃ (kv:List ((Int × Int) × Int)) (x3 x4 x5 x6:Option D),hAll w h s j (L.drop j) kv=hAll w h s 0 L []/\kv.length<=8*j/\z=[some (.lst (lstD L)),some (.tup [.int w,.int h,.int s]),some (.ptr p),x3,x4,x5,x6]/\M'=(p,.dti kv)::M,⟨[],none,none,none,none,rfl,by simp,rfl,rfl⟩,?_,?_⟩
  ·rintro j d z M' hd ⟨kv,x3,x4,x5,x6,e1,PK,rfl,rfl⟩;k_places
   obtain⟨x,i6,rfl⟩:=Bz hd
   have hj:j<L.length:=(Fb.mp i6).1
   have Qt:=hL.many
   obtain⟨xl,xs⟩:=hL.each x (GW i6)
   rw[sZ i6] at e1
   refine⟨By xs,λi z M'=>∃ (Im:List ((Int × Int) × Int)) (x5 x6:Option D),hRow w h s j i (x.drop i) Im=hRow w h s j 0 x kv/\Im.length<=8*j+i/\i<=x.length/\z=[some (.lst (lstD L)),some (.tup [.int w,.int h,.int s]),some (.ptr p),some (.int j),some (.str ⟨x.toArray⟩),x5,x6]/\M'=(p,.dti Im)::M,⟨kv,x5,x6,rfl,by lia,Fp _,rfl,rfl⟩,?_,?_⟩
   ·rintro i d z M' KY ⟨Im,y5,y6,e2,MQ,hi,rfl,rfl⟩;k_places
    obtain⟨c,hc,rfl⟩:=BA KY
    have Ik:i<x.length:=(Fb.mp hc).1
    have sc:=xs c (GW hc)
    rw[sZ hc,hRow] at e2
    refine⟨λz M'=>∃ Kr:List ((Int × Int) × Int),hRow w h s j (i+1) (x.drop (i+1)) Kr=hRow w h s j 0 x kv/\Kr.length<=8*j+(i+1)/\z=[some (.lst (lstD L)),some (.tup [.int w,.int h,.int s]),some (.ptr p),some (.int j),some (.str ⟨x.toArray⟩),some (.int i),some (.str ⟨#[c]⟩)]/\M'=(p,.dti Kr)::M,?_,?_⟩
    ·show if(!decide ((⟨#[c]⟩:Str)="."))=true then _ else _
     by_cases t9:c=46
     ·subst t9
      rw[if_pos rfl] at e2
      exact⟨Im,e2,by lia,rfl,rfl⟩
     ·rw[if_neg t9] at e2
      refine ifT (by simp[one_sign,t9]) ?_
      have c6:49<=c/\c<=54:=by unfold aG at sc;lia
      obtain⟨ix,rest,ho,Ka⟩:=Bw c6
      refine⟨⟨_,cM⟩,w,h,s,i,j,rfl,hw,hh,y9,hs,m5,ix,rest,ho,_,cM,by have:=sY Im (hmX w h s i j) ((j:Int) % h) ((c:Int) - 48);lia,λv=>?_⟩
      rw[sV,Ka]
      exact⟨_,e2,by have:=sY Im (hmX w h s i j) ((j:Int) % h) ((c:Int) - 48);lia,rfl,rfl⟩
    ·rintro z M' ⟨Kr,e3,h3,rfl,rfl⟩;k_places
     exact⟨Kr,_,_,e3,h3,Ik,rfl,rfl⟩
   ·rintro z M' hz
    rw[gM,dN] at hz
    obtain⟨Im,y5,y6,e2,MQ,hi,rfl,rfl⟩:=hz
    rw[Ih] at e2
    refine⟨Im,_,_,_,_,?_,by lia,rfl,rfl⟩
    rw[<- e1,hAll,<- e2]
    rfl
  ·rintro z M' hz
   rw[show(lstD L).length=L.length by simp[lstD]] at hz
   obtain⟨kv,x3,x4,x5,x6,e1,PK,rfl,rfl⟩:=hz
   rw[Ih] at e1
   refine⟨_,cM,?_⟩
   rw[ku]
   have e2:kv=hAll w h s 0 L []:=e1
   rw[<- e2] at hR
   exact hR
abbrev ou(V:Bx):Prop:=V.M 3 "Motif" me BC
theorem DK(T:V.Ti "Motif" "Motif.__init__" ma me)(JH:iY V)(MU:ot V)(IC:V.a "Motif" "place")(uJ:V.a "Motif" "shifts")(ID:V.a "Motif" "hues"):ou V:=by
 refine Txi.okIM T CJ (λds R h=>?_) (λf cdv A outer s H E J hr hx=>⟨_,((aA (gT IC (aj (aa 0)) (aj (aa 1)))
   (aA (gT uJ (aj (aa 0)) (aj (aq JH hr (ac (aa 3) (ac (aa 4) ae)))))
   (aE (gT ID (aj (aa 0)) (fJ (rD (aL uJ (aj (aa 0))) (aj cG)) zT (aZ MU hx hr (aR (aj (aa 2)) (aR (aL uJ (aj (aa 0))) bo))))))))),λa ds R c_ h=>?_⟩)
 ·obtain⟨_,_,_,_,_,_,_,rfl,_⟩:=h;rfl
 ·obtain⟨k,L,wd,x,y,u,v,rfl,hL,i6,hy,hu,hv,h0,h1⟩:=h
  unfold B12 at i6 hy hu hv
  refine⟨_,cB,by show(0:Nat)<1000;decide,?_⟩
  rw[eQ,BD]
  refine⟨x,y,u,v,rfl,by lia,by lia,by lia,by lia,λe=>?_,λe w h s F=>?_⟩
  ·refine⟨_,cB,by show(1:Nat)<1000;decide,?_⟩
   rw[eQ,tf]
   refine⟨_,cB,_,kx,?_⟩
   refine⟨_,cB,by show(2:Nat)<1000;decide,?_⟩
   rw[eQ,tm]
   exact⟨_,rfl,h0 e⟩
  ·refine⟨_,cB,by show(1:Nat)<1000;decide,?_⟩
   rw[eQ,tf]
   refine⟨_,cB,_,kx,?_⟩
   obtain⟨b1,b2,b3⟩:=F.bd (N:=288) (by
    have m1:=bx (a:=x) (d:=v) (A:=12) (B:=12) (by lia) (by lia)
    have m2:=bx (a:=y) (d:=u) (A:=12) (B:=12) (by lia) (by lia)
    lia)
   refine⟨_,cB,_,kx,L,wd,w,h,s,rfl,hL,F.1,F.2.1,by lia,F.2.2.1,by lia,?_⟩
   refine⟨_,cB,by show(2:Nat)<1000;decide,?_⟩
   rw[eQ,tm]
   exact⟨_,rfl,h1 e w h s F⟩
abbrev iZ(V:Bx):Prop:=V.MM 6 "motif_from" mi BK
theorem DL(T:V.T "motif_from" mf mi)(MV:om V)(Io:fR V)(uF:V.a "Reading" "place")(MX:ou V)(uB:cE V):iZ V:=by
  refine Tx.okM T sc_motif_from (λds M R RX h=>?_) (λf cdv A outer s H E J hr hx=>⟨_,((aA (bb 1 sc_motif_from.nd (aL uF (aj (aa 0))))
      (aA (ck (aX (CalMth.one uB) hx hr (aj (aa 0)) (aD (ac ax ae))))
      (aA (bb 2 sc_motif_from.nd (aZ MV hx hr (aD (ac (aa 0) ae))))
      (aA (ck (aX (CalMth.one uB) hx hr (aj (aa 0)) (aD (ac ax ae))))
      (aA (bb 3 sc_motif_from.nd (aZ Io hx hr (aD (ac (aa 0) ae))))
      (aA (ck (aX (CalMth.one uB) hx hr (aj (aa 0)) (aD (ac ax ae))))
      (aA (bb 4 sc_motif_from.nd (aZ Io hx hr (aD (ac (aa 0) ae))))
      (aA (ck (aX (CalMth.one uB) hx hr (aj (aa 0)) (aD (ac ax ae))))
      (aE (aM (aj (jN MX hr (ac (aa 1) (ac (aa 2) (ac (aa 3) (ac (aa 4) ae))))))))))))))))),λds M R RX b8 h=>?_⟩)
  · obtain⟨_,_,_,_,rfl,_⟩:=h;rfl
  · obtain⟨a,t,k,l,rfl,rfl,d6,hR,hX⟩:=h
    refine⟨λd M'=>d= .int k/\M'=RdM a t k,⟨_,aN,_,db,rfl,rfl⟩,?_⟩
    rintro _ _ ⟨rfl,rfl⟩;k_places
    refine⟨_,ES.mpr rfl,_,aN,bT,a,t,_,l,"[",rfl,rfl,d6,λc l1 e hc=>?_,λc_ M'=>?_⟩
    · have ec:c=91:=ES.mp hc
      subst ec
      subst e
      have hb:∀ r,walk (.pat 5::r) (91::l1) k=walk (motW r) l1 (k+1):=λr=>aF (by rw[bJ];rfl)
      refine⟨λd M'=>∃ (L:List (List Nat)) (w:Nat) (l2:List Nat),RowsL L w/\l1=rowsL L++l2/\(∀ r,walk (.lin 0 0 0::r) l1 (k+1)=walk (.sign 59::r) l2 (k+1+(rowsL L).length))/\d= .lst (lstD L)/\M'=RdM a t (k+1+(rowsL L).length),⟨a,t,_,l1,rfl,rfl,d6.next,λL w l' h1 h2 h3=>⟨L,w,l',h1,h2,h3,rfl,rfl⟩,λj hj M'=>?_⟩,?_⟩
      · rw[b8]
        exact hX j (λr=>by rw[hb];exact hj _) M'
      rintro _ _ ⟨L,w,l2,hL,rfl,v_,rfl,rfl⟩;k_places
      have m4:=d6.next.app
      have Kl:∀ r,walk (.pat 5::r) (91::(rowsL L++l2)) k=walk (.sign 59:: .num:: .sign 44:: .num:: .sign 59:: .num:: .sign 44:: .num:: .sign 93::r) l2 (k+1+(rowsL L).length):=λr=>by rw[hb];exact v_ _
      refine⟨_,ES.mpr rfl,_,aN,bT,a,t,_,l2,";",rfl,rfl,m4,λc l3 e hc=>?_,λc_ M'=>?_⟩
      · have ec:c=59:=ES.mp hc
        subst ec
        subst e
        have Ip:=m4.next
        have MY:∀ r,walk (.pat 5::r) (91::(rowsL L++59::l3)) k=walk (.num:: .sign 44:: .num:: .sign 59:: .num:: .sign 44:: .num:: .sign 93::r) l3 (k+1+(rowsL L).length+1):=λr=>by rw[Kl,dM]
        refine⟨λd M'=>∃ x y l4,B12 x/\B12 y/\l3=numL x++44::(numL y++l4)/\(∀ e r,walk (.num:: .sign 44:: .num:: .sign e::r) l3 (k+1+(rowsL L).length+1)=walk (.sign e::r) l4 (k+1+(rowsL L).length+1+(numL x).length+1+(numL y).length))/\d= .tup [.int x,.int y]/\M'=RdM a t (k+1+(rowsL L).length+1+(numL x).length+1+(numL y).length),⟨a,t,_,l3,rfl,rfl,Ip,λx y l' h1 h2 h3 h4=>⟨x,y,l',h1,h2,h3,h4,rfl,rfl⟩,λj hj M'=>?_⟩,?_⟩
        · rw[b8]
          exact hX j (λr=>by rw[MY];exact hj _) M'
        rintro _ _ ⟨x,y,l4,i6,hy,rfl,Ob,rfl,rfl⟩;k_places
        have Ks:At t (k+1+(rowsL L).length+1+(numL x).length+1+(numL y).length) l4:=Ip.app.next.app
        refine⟨_,ES.mpr rfl,_,aN,bT,a,t,_,l4,";",rfl,rfl,Ks,λc l5 e hc=>?_,λc_ M'=>?_⟩
        · have ec:c=59:=ES.mp hc
          subst ec
          subst e
          have Kt:=Ks.next
          have Oc:∀ r,walk (.pat 5::r) (91::(rowsL L++59::(numL x++44::(numL y++59::l5)))) k=walk (.num:: .sign 44:: .num:: .sign 93::r) l5 (k+1+(rowsL L).length+1+(numL x).length+1+(numL y).length+1):=λr=>by rw[MY,Ob,dM]
          refine⟨λd M'=>∃ u v l6,B12 u/\B12 v/\l5=numL u++44::(numL v++l6)/\(∀ e r,walk (.num:: .sign 44:: .num:: .sign e::r) l5 (k+1+(rowsL L).length+1+(numL x).length+1+(numL y).length+1)=walk (.sign e::r) l6 (k+1+(rowsL L).length+1+(numL x).length+1+(numL y).length+1+(numL u).length+1+(numL v).length))/\d= .tup [.int u,.int v]/\M'=RdM a t (k+1+(rowsL L).length+1+(numL x).length+1+(numL y).length+1+(numL u).length+1+(numL v).length),⟨a,t,_,l5,rfl,rfl,Kt,λx y l' h1 h2 h3 h4=>⟨x,y,l',h1,h2,h3,h4,rfl,rfl⟩,λj hj M'=>?_⟩,?_⟩
          · rw[b8]
            exact hX j (λr=>by rw[Oc];exact hj _) M'
          rintro _ _ ⟨u,v,l6,hu,hv,rfl,Od,rfl,rfl⟩;k_places
          have MZ:At t (k+1+(rowsL L).length+1+(numL x).length+1+(numL y).length+1+(numL u).length+1+(numL v).length) l6:=Kt.app.next.app
          refine⟨_,ES.mpr rfl,_,aN,bT,a,t,_,l6,"]",rfl,rfl,MZ,λc l7 e hc=>?_,λc_ M'=>?_⟩
          · have ec:c=93:=ES.mp hc
            subst ec
            subst e
            obtain⟨Lb,Ld⟩:=BJ hL
            have Oe:(Pat.mot (L.map λx=>(⟨x.toArray⟩:Str)) x y u v).tl=motL L x y u v:=by rw[Pat.tl,Ld]
            have Ku:∀ w,FormOf (Pat.mot (L.map λx=>(⟨x.toArray⟩:Str)) x y u v) k w->R w (RdM a t (k+1+(rowsL L).length+1+(numL x).length+1+(numL y).length+1+(numL u).length+1+(numL v).length+1)):=λw hw=>by
              have:=hR (Pat.mot (L.map λx=>(⟨x.toArray⟩:Str)) x y u v) l7 ⟨Lb,i6,hy,hu,hv⟩ rfl (by rw[Oe];simp[motL]) w hw
              rw[Oe] at this
              have e:k+(motL L x y u v).length=k+1+(rowsL L).length+1+(numL x).length+1+(numL y).length+1+(numL u).length+1+(numL v).length+1:=by
                simp[motL];lia
              rw[e] at this
              exact this
            refine⟨k,L,w,x,y,u,v,rfl,hL,i6,hy,hu,hv,λe=>?_,λe w h s F=>?_⟩
            · exact Ku _ ⟨.non,[],rfl,λ_=>rfl,λz=>absurd e z⟩
            · exact Ku _ ⟨_,_,rfl,λz=>absurd z e,λ_=>⟨w,h,s,F,rfl,by rw[Ld]⟩⟩
          · rw[b8]
            refine hX _ (λr=>?_) M'
            rw[Oc,Od,dL λl' q=>c_ 93 l' q (by decide)]
        · rw[b8]
          refine hX _ (λr=>?_) M'
          rw[MY,Ob,dL λl' q=>c_ 59 l' q (by decide)]
      · rw[b8]
        refine hX _ (λr=>?_) M'
        rw[Kl,dL λl' q=>c_ 59 l' q (by decide)]
    · rw[b8]
      refine hX _ (λr=>?_) M'
      refine walk_bad (λz=>nomatch z) λc l' q=>?_
      rw[bJ]
      unfold bI
      have:¬ c=91:=λz=>c_ c l' q (by rw[z];decide)
      rw[if_neg this,if_pos rfl]
abbrev ja(V:Bx):Prop:=V.M 1 "Mirror" mm BG
theorem DM(T:V.Ti "Mirror" "Mirror.__init__" mj mm)(uR:V.a "Mirror" "form"):ja V:=by
 refine Txi.okI T CK (λds R h=>?_) (λf cdv A outer s H E J hr=>⟨_,((bE uR (aa 1) dE)),λds R h=>?_⟩)
 ·obtain⟨_,_,rfl,_⟩:=h;rfl
 ·obtain⟨x,fs,rfl,hR⟩:=h
  exact⟨by decide,hR⟩
abbrev jb(V:Bx):Prop:=V.M 1 "Turn" mo BH
theorem DN(T:V.Ti "Turn" "Turn.__init__" mn mo)(uQ:V.a "Turn" "form"):jb V:=by
 refine Txi.okI T CL (λds R h=>?_) (λf cdv A outer s H E J hr=>⟨_,((bE uQ (aa 1) dE)),λds R h=>?_⟩)
 ·obtain⟨_,_,rfl,_⟩:=h;rfl
 ·obtain⟨x,fs,rfl,hR⟩:=h
  exact⟨by decide,hR⟩
abbrev jc(V:Bx):Prop:=V.M 1 "Over" mv BE
theorem DO(T:V.Ti "Over" "Over.__init__" mq mv)(uS:V.a "Over" "above")(uU:V.a "Over" "below"):jc V:=by
 refine Txi.okI T CM (λds R h=>?_) (λf cdv A outer s H E J hr=>⟨_,((bE uS (aa 1) (bE uU (aa 2) dE))),λds R h=>?_⟩)
 ·obtain⟨_,_,_,_,rfl,_⟩:=h;rfl
 ·obtain⟨x,y,fs,gs,rfl,hR⟩:=h
  refine⟨by decide,by show(1:Nat)<1000;decide,?_⟩
  show R (putD _ _ (putD _ _ []))
  rw[putD,putD,if_neg (by decide+kernel)]
  exact hR
abbrev jd(V:Bx):Prop:=V.M 1 "Shifted" my BF
theorem DP(T:V.Ti "Shifted" "Shifted.__init__" mx my)(uT:V.a "Shifted" "form")(IE:V.a "Shifted" "x")(IF:V.a "Shifted" "y"):jd V:=by
 refine Txi.okI T CN (λds R h=>?_) (λf cdv A outer s H E J hr=>⟨_,((bE uT (aa 1) (bE IE (aa 2) (bE IF (aa 3) dE)))),λds R h=>?_⟩)
 ·obtain⟨_,_,_,_,rfl,_⟩:=h;rfl
 ·obtain⟨x,fs,a,b,rfl,hR⟩:=h
  refine⟨by decide,by show(1:Nat)<1000;decide,by show(2:Nat)<1000;decide,?_⟩
  show R (putD _ _ (putD _ _ (putD _ _ [])))
  rw[show putD ("x":Str) (.int a) (putD ("form":Str) (.obj x fs) [])=([("form",.obj x fs),("x",.int a)]:List (Str × D)) by rw[putD,putD,if_neg (by decide+kernel)];rfl,putD,if_neg (by decide+kernel),putD,if_neg (by decide+kernel)]
  exact hR
abbrev je(V:Bx):Prop:=V.M 1 "Rehue" mB BI
theorem DQ(T:V.Ti "Rehue" "Rehue.__init__" mz mB)(uO:V.a "Rehue" "form")(IG:V.a "Rehue" "old")(IH:V.a "Rehue" "new"):je V:=by
 refine Txi.okI T CO (λds R h=>?_) (λf cdv A outer s H E J hr=>⟨_,((bE uO (aa 1) (bE IG (aa 2) (bE IH (aa 3) dE)))),λds R h=>?_⟩)
 ·obtain⟨_,_,_,_,rfl,_⟩:=h;rfl
 ·obtain⟨x,fs,a,b,rfl,hR⟩:=h
  refine⟨by decide,by show(1:Nat)<1000;decide,by show(2:Nat)<1000;decide,?_⟩
  show R (putD _ _ (putD _ _ (putD _ _ [])))
  rw[show putD ("old":Str) (.int a) (putD ("form":Str) (.obj x fs) [])=([("form",.obj x fs),("old",.int a)]:List (Str × D)) by rw[putD,putD,if_neg (by decide+kernel)];rfl,putD,if_neg (by decide+kernel),putD,if_neg (by decide+kernel)]
  exact hR
theorem DR{n j:Nat}(hL:6<=n)(T:V.T "over_from" ia fO)(uH:V.MM n "form_from" cD (dg j))(Kv:jc V)(uB:cE V):V.MM (n+1) "over_from" fO (tz j):=by
 refine Tx.okM T sc_over_from (λds M R RX h=>?_) (λf cdv A outer s H E J hr hx=>⟨_,((aA (bb 2 sc_over_from.nd (aZ (hn:=by omega) uH hx hr (aD (ac (aa 0) (ac (aa 1) ae)))))
   (aA (ck (aX (hn:=by omega) (CalMth.one uB) hx hr (aj (aa 0)) (aD (ac ax ae))))
   (aA (bb 3 sc_over_from.nd (aZ (hn:=by omega) uH hx hr (aD (ac (aa 0) (ac (aa 1) ae)))))
   (aA (ck (aX (hn:=by omega) (CalMth.one uB) hx hr (aj (aa 0)) (aD (ac ax ae))))
   (aE (aM (aj (jN (hn:=by omega) Kv hr (ac (aa 2) (ac (aa 3) ae))))))))))),λds M R RX b8 h=>?_⟩)
 ·obtain⟨_,_,_,_,_,rfl,_⟩:=h;rfl
 ·obtain⟨a,t,k,l,d,rfl,rfl,d6,Jk,H_,hR,hX⟩:=h
  refine⟨λv M'=>∃ p l1,p.Syn/\p.depth+d<=5/\l=p.tl++l1/\FormOf p k v/\M'=RdM a t (k+p.tl.length),⟨a,t,k,l,d,rfl,rfl,d6,Jk,H_,λp l' h1 h2 h3 v h4=>⟨p,l',h1,h2,h3,h4,rfl⟩,λi hi M'=>?_⟩,?_⟩
  ·rw[b8];exact hX i (λr=>hi _) M'
  rintro v _ ⟨p,l1,hp,M0,rfl,hv,rfl⟩;k_places
  obtain⟨fs,rfl⟩:=hv.obj
  have c9:=d6.app
  have o_:∀ r,walk (.pat d:: .sign 124:: .pat d:: .sign 41::r) (p.tl++l1) k=walk (.sign 124:: .pat d:: .sign 41::r) l1 (k+p.tl.length):=λr=>cA hp d _ l1 k M0
  refine⟨_,ES.mpr rfl,_,aN,bT,a,t,_,l1,"|",rfl,rfl,c9,λc l2 e hc=>?_,λc_ M'=>?_⟩
  ·have ec:c=124:=ES.mp hc
   subst ec
   subst e
   refine⟨λv M'=>∃ q l3,q.Syn/\q.depth+d<=5/\l2=q.tl++l3/\FormOf q (k+p.tl.length+1) v/\M'=RdM a t (k+p.tl.length+1+q.tl.length),⟨a,t,_,l2,d,rfl,rfl,c9.next,Jk,H_,λp l' h1 h2 h3 v h4=>⟨p,l',h1,h2,h3,h4,rfl⟩,λi hi M'=>?_⟩,?_⟩
   ·rw[b8];exact hX i (λr=>by rw[o_,dM];exact hi _) M'
   rintro v _ ⟨q,l3,hq,Of,rfl,Og,rfl⟩;k_places
   obtain⟨gs,rfl⟩:=Og.obj
   have Ip:=c9.next.app
   have PL:∀ r,walk (.pat d:: .sign 124:: .pat d:: .sign 41::r) (p.tl++124::(q.tl++l3)) k=walk (.sign 41::r) l3 (k+p.tl.length+1+q.tl.length):=λr=>by rw[o_,dM,cA hq d _ l3 _ Of]
   refine⟨_,ES.mpr rfl,_,aN,bT,a,t,_,l3,")",rfl,rfl,Ip,λc l4 e hc=>?_,λc_ M'=>?_⟩
   ·have ec:c=41:=ES.mp hc
    subst ec
    subst e
    exact⟨_,_,_,_,rfl,hR p q l4 hp hq M0 Of rfl _ _ hv Og⟩
   ·rw[b8]
    refine hX _ (λr=>?_) M'
    rw[PL,dL λl' q=>c_ 41 l' q (by decide)]
  ·rw[b8]
   refine hX _ (λr=>?_) M'
   rw[o_,dL λl' q=>c_ 124 l' q (by decide)]
theorem DU{n j:Nat}(hL:6<=n)(T:V.T "shifted_from" ib fP)(Io:fR V)(uH:V.MM n "form_from" cD (dg j))(Kw:jd V)(uB:cE V):V.MM (n+1) "shifted_from" fP (tD j):=by
 refine Tx.okM T sc_shifted_from (λds M R RX h=>?_) (λf cdv A outer s H E J hr hx=>⟨_,((aA (bb 2 sc_shifted_from.nd (aZ (hn:=by omega) Io hx hr (aD (ac (aa 0) ae))))
   (aA (ck (aX (hn:=by omega) (CalMth.one uB) hx hr (aj (aa 0)) (aD (ac ax ae))))
   (aE (aM (gR (hn:=by omega) Kw hr (aR (aZ (hn:=by omega) uH hx hr (aD (ac (aa 0) (ac (aa 1) ae)))) (aR (aj (af (aa 2) ad)) (aR (aj (af (aa 2) ad)) bo))))))))),λds M R RX b8 h=>?_⟩)
 ·obtain⟨_,_,_,_,_,rfl,_⟩:=h;rfl
 ·obtain⟨a,t,k,l,d,rfl,rfl,d6,Jk,H_,hR,hX⟩:=h
  refine⟨λv M'=>∃ x y l1,B12 x/\B12 y/\l=numL x++44::(numL y++l1)/\(∀ e r,walk (.num:: .sign 44:: .num:: .sign e::r) l k=walk (.sign e::r) l1 (k+(numL x).length+1+(numL y).length))/\v= .tup [.int x,.int y]/\M'=RdM a t (k+(numL x).length+1+(numL y).length),⟨a,t,_,l,rfl,rfl,d6,λx y l' h1 h2 h3 h4=>⟨x,y,l',h1,h2,h3,h4,rfl,rfl⟩,λi hi M'=>?_⟩,?_⟩
  ·rw[b8];exact hX i (λr=>hi _) M'
  rintro _ _ ⟨x,y,l1,i6,hy,rfl,o_,rfl,rfl⟩;k_places
  have c9:At t (k+(numL x).length+1+(numL y).length) l1:=d6.app.next.app
  refine⟨_,ES.mpr rfl,_,aN,bT,a,t,_,l1,":",rfl,rfl,c9,λc l2 e hc=>?_,λc_ M'=>?_⟩
  ·have ec:c=58:=ES.mp hc
   subst ec
   subst e
   refine⟨a,t,_,l2,d,rfl,rfl,c9.next,Jk,H_,λp l' h1 h2 h3 v h4=>?_,λi hi M'=>?_⟩
   ·obtain⟨fs,rfl⟩:=h4.obj
    subst h3
    exact⟨_,rfl,_,rfl,_,_,_,_,rfl,hR x y p l' i6 hy h1 h2 rfl _ h4⟩
   ·rw[b8]
    refine hX i (λr=>?_) M'
    rw[o_,dM];exact hi _
  ·rw[b8]
   refine hX _ (λr=>?_) M'
   rw[o_,dL λl' q=>c_ 58 l' q (by decide)]
theorem DV{n j:Nat}(hL:6<=n)(T:V.T "rehue_from" ic fQ)(uD:V.m "int")(uH:V.MM n "form_from" cD (dg j))(Kx:je V)(uB:cE V):V.MM (n+1) "rehue_from" fQ (tE j):=by
 refine Tx.okM T sc_rehue_from (λds M R RX h=>?_) (λf cdv A outer s H E J hr hx=>⟨_,((aA (bb 2 sc_rehue_from.nd (rF uD (aR (aX (hn:=by omega) (CalMth.one uB) hx hr (aj (aa 0)) (aD (ac ax ae))) bo)))
   (aA (bb 3 sc_rehue_from.nd (rF uD (aR (aX (hn:=by omega) (CalMth.one uB) hx hr (aj (aa 0)) (aD (ac ax ae))) bo)))
   (aE (aM (gR (hn:=by omega) Kx hr (aR (aZ (hn:=by omega) uH hx hr (aD (ac (aa 0) (ac (aa 1) ae)))) (aR (aj (aa 2)) (aR (aj (aa 3)) bo))))))))),λds M R RX b8 h=>?_⟩)
 ·obtain⟨_,_,_,_,_,rfl,_⟩:=h;rfl
 ·obtain⟨a,t,k,l,d,rfl,rfl,d6,Jk,H_,hR,hX⟩:=h
  refine⟨λv M'=>∃ c l1,(49<=c/\c<=54)/\l=c::l1/\v= .int ((c:Int) - 48)/\M'=RdM a t (k+1),⟨_,ES.mpr rfl,_,aN,bT,a,t,_,l,"123456",rfl,rfl,d6,λc l1 e hc=>?_,λc_ M'=>?_⟩,?_⟩
  ·exact⟨_,⟨digit_of (hue_dig.mp hc),by show(1:Nat)<=640;decide⟩,c,l1,hue_dig.mp hc,e,rfl,rfl⟩
  ·rw[b8]
   exact hX _ (λr=>tw c_) M'
  rintro _ _ ⟨c,l1,hc,rfl,rfl,rfl⟩;k_places
  refine⟨λv M'=>∃ e l2,(49<=e/\e<=54)/\l1=e::l2/\v= .int ((e:Int) - 48)/\M'=RdM a t (k+2),⟨_,ES.mpr rfl,_,aN,bT,a,t,_,l1,"123456",rfl,rfl,d6.next,λc l1 e hc=>?_,λc_ M'=>?_⟩,?_⟩
  ·exact⟨_,⟨digit_of (hue_dig.mp hc),by show(1:Nat)<=640;decide⟩,c,l1,hue_dig.mp hc,e,rfl,rfl⟩
  ·rw[b8]
   exact hX _ (λr=>by rw[ky hc,tw c_]) M'
  rintro _ _ ⟨e,l2,he,rfl,rfl,rfl⟩;k_places
  refine⟨a,t,_,l2,d,rfl,rfl,d6.next.next,Jk,H_,λp l' h1 h2 h3 v h4=>?_,λi hi M'=>?_⟩
  ·obtain⟨fs,rfl⟩:=h4.obj
   subst h3
   exact⟨_,_,_,_,rfl,hR c e p l' hc he h1 h2 rfl _ h4⟩
  ·rw[b8]
   refine hX i (λr=>?_) M'
   rw[ky hc,ky he];exact hi _
theorem DY{n j:Nat}(hL:6<=n)(T:V.T "form_from" ie cD)(PM:V.MM n "over_from" fO (tz j))(PN:V.MM n "shifted_from" fP (tD j))(uH:V.MM n "form_from" cD (dg j))(PP:V.MM n "rehue_from" fQ (tE j))(Ky:iZ V)(Kz:V.gi "DEEP" 5)(KA:ja V)(KC:jb V)(uI:dm V):V.MM (n+1) "form_from" cD (dg (j+1)):=by
 refine Tx.okM T sc_form_from (λds M R RX h=>?_) (λf cdv A outer s H E J hr hx=>⟨_,((aA (bb 2 sc_form_from.nd (fJ (ca (dz (aa 1) (fG Kz))) (aX (hn:=by omega) (CalMth.one uI) hx hr (aj (aa 0)) (aD (ac ax ae))) (aj ax)))
   (aA (cb (ca (bt (aa 2) ax)) (aE (aM (aZ (hn:=by omega) PM hx hr (aD (ac (aa 0) (ac (am (aa 1) ad) ae)))))) bQ)
   (aA (cb (ca (bt (aa 2) ax)) (aE (aM (aZ (hn:=by omega) PN hx hr (aD (ac (aa 0) (ac (am (aa 1) ad) ae)))))) bQ)
   (aA (cb (ca (bt (aa 2) ax)) (aE (aM (gR (hn:=by omega) KA hr (aR (aZ (hn:=by omega) uH hx hr (aD (ac (aa 0) (ac (am (aa 1) ad) ae)))) bo)))) bQ)
   (aA (cb (ca (bt (aa 2) ax)) (aE (aM (gR (hn:=by omega) KC hr (aR (aZ (hn:=by omega) uH hx hr (aD (ac (aa 0) (ac (am (aa 1) ad) ae)))) bo)))) bQ)
   (aA (cb (ca (bt (aa 2) ax)) (aE (aM (aZ (hn:=by omega) PP hx hr (aD (ac (aa 0) (ac (am (aa 1) ad) ae)))))) bQ)
   (aE (aM (aZ (hn:=by omega) Ky hx hr (aD (ac (aa 0) ae)))))))))))),λds M R RX b8 h=>?_⟩)
 ·obtain⟨_,_,_,_,_,rfl,_⟩:=h;rfl
 ·obtain⟨a,t,k,l,d,rfl,rfl,d6,Jk,H_,hR,hX⟩:=h
  have Qu:d<=5:=by lia
  refine⟨λv M'=>(v= .str ""/\M'=RdM a t k/\(d=5\/∀ c l',l=c::l'->c ∉ cs "(smth"))\/(∃ c l',l=c::l'/\c∈cs "(smth"/\d<5/\v= .str ⟨#[c]⟩/\M'=RdM a t (k+1)),?_,?_⟩
  ·show if decide ((d:Int)<5)=true then _ else _
   refine ite2 (λc=>?_) (λc=>?_)
   ·have c':d<5:=by have:=of_decide_eq_true c;lia
    refine⟨_,ES.mpr rfl,_,aN,cL,a,t,_,l,"(smth",rfl,rfl,d6,?_⟩
    by_cases h:∃ c l',l=c::l'/\c∈cs "(smth"
    ·obtain⟨c,l',rfl,hc⟩:=h
     rw[dI hc,dJ hc]
     exact .inr ⟨c,l',rfl,hc,c',rfl,rfl⟩
    ·have c_:∀ c l',l=c::l'->c ∉ cs "(smth":=λc l' e hc=>h ⟨c,l',e,hc⟩
     have hm:mayS "(smth" l=""/\mayN "(smth" l=0:=by
      cases l with
      |nil=>exact⟨rfl,rfl⟩
      |cons c l=>exact⟨de (c_ c l rfl),df (c_ c l rfl)⟩
     rw[hm.1,hm.2]
     exact .inl ⟨rfl,rfl,.inr c_⟩
   ·have c':d=5:=by
     have:¬ ((d:Int)<5):=λz=>c (decide_eq_true z)
     lia
    exact .inl ⟨rfl,rfl,.inl c'⟩
  rintro _ _ (⟨rfl,rfl,c_⟩|⟨c,l1,rfl,hc,gV,rfl,rfl⟩);k_places
  ·refine⟨a,t,k,l,rfl,rfl,d6,λp l' h1 h2 h3 v h4=>hR p l' h1 (by lia) h3 v h4,λi hi M'=>?_⟩
   rw[b8]
   exact hX i (λr=>by rw[BL c_];exact hi r) M'
  have c9:=d6.next
  have hj:1<=j:=by lia
  have PQ:cs "(smth"=[40,115,109,116,104]:=rfl
  rw[PQ] at hc
  simp only[EU,FY,or_false] at hc
  have nd:¬ d=5:=by lia
  rcases hc with rfl|rfl|rfl|rfl|rfl
  ·have hw:∀ r,walk (.pat d::r) (40::l1) k=walk (.pat (d+1):: .sign 124:: .pat (d+1):: .sign 41::r) l1 (k+1):=λr=>aF (by rw[bJ];unfold bI;rw[if_neg (by decide),if_neg nd,if_pos rfl])
   refine⟨a,t,k+1,l1,d+1,rfl,rfl,c9,by lia,hj,λp q l' h1 h2 h3 h4 h5 u u' h6 h7=>?_,λi hi M'=>?_⟩
   ·have:=hR (.over p q) l' ⟨h1,h2⟩ (by rw[Pat.depth];lia) (by rw[h5,Pat.tl];simp) _ ⟨u,u',rfl,h6,h7⟩
    have e:k+(Pat.over p q).tl.length=k+1+p.tl.length+1+q.tl.length+1:=by rw[Pat.tl];simp;lia
    rw[e] at this
    exact this
   ·rw[b8];exact hX i (λr=>by rw[hw];exact hi r) M'
  ·have hw:∀ r,walk (.pat d::r) (115::l1) k=walk (.num:: .sign 44:: .num:: .sign 58:: .pat (d+1)::r) l1 (k+1):=λr=>aF (by rw[bJ];unfold bI;rw[if_neg (by decide),if_neg nd,if_neg (by decide),if_pos rfl])
   refine⟨a,t,k+1,l1,d+1,rfl,rfl,c9,by lia,hj,λx y p l' h1 h2 h3 h4 h5 u h6=>?_,λi hi M'=>?_⟩
   ·have:=hR (.sh x y p) l' ⟨h1,h2,h3⟩ (by rw[Pat.depth];lia) (by rw[h5,Pat.tl];simp) _ ⟨u,rfl,h6⟩
    have e:k+(Pat.sh x y p).tl.length=k+1+(numL x).length+1+(numL y).length+1+p.tl.length:=by rw[Pat.tl];simp;lia
    rw[e] at this
    exact this
   ·rw[b8];exact hX i (λr=>by rw[hw];exact hi r) M'
  ·have hw:∀ r,walk (.pat d::r) (109::l1) k=walk (.pat (d+1)::r) l1 (k+1):=λr=>aF (by rw[bJ];unfold bI;rw[if_neg (by decide),if_neg nd,if_neg (by decide),if_neg (by decide),if_neg (by decide),if_pos (.inl rfl)])
   refine⟨a,t,k+1,l1,d+1,rfl,rfl,c9,by lia,hj,λp l' h1 h2 h3 v h4=>?_,λi hi M'=>?_⟩
   ·obtain⟨fs,rfl⟩:=h4.obj
    have:=hR (.mir p) l' h1 (by rw[Pat.depth];lia) (by rw[h3,Pat.tl];simp) _ ⟨_,rfl,h4⟩
    have e:k+(Pat.mir p).tl.length=k+1+p.tl.length:=by rw[Pat.tl];simp;lia
    rw[e] at this
    exact⟨_,_,rfl,this⟩
   ·rw[b8];exact hX i (λr=>by rw[hw];exact hi r) M'
  ·have hw:∀ r,walk (.pat d::r) (116::l1) k=walk (.pat (d+1)::r) l1 (k+1):=λr=>aF (by rw[bJ];unfold bI;rw[if_neg (by decide),if_neg nd,if_neg (by decide),if_neg (by decide),if_neg (by decide),if_pos (.inr rfl)])
   refine⟨a,t,k+1,l1,d+1,rfl,rfl,c9,by lia,hj,λp l' h1 h2 h3 v h4=>?_,λi hi M'=>?_⟩
   ·obtain⟨fs,rfl⟩:=h4.obj
    have:=hR (.tur p) l' h1 (by rw[Pat.depth];lia) (by rw[h3,Pat.tl];simp) _ ⟨_,rfl,h4⟩
    have e:k+(Pat.tur p).tl.length=k+1+p.tl.length:=by rw[Pat.tl];simp;lia
    rw[e] at this
    exact⟨_,_,rfl,this⟩
   ·rw[b8];exact hX i (λr=>by rw[hw];exact hi r) M'
  ·have hw:∀ r,walk (.pat d::r) (104::l1) k=walk (.hue:: .hue:: .pat (d+1)::r) l1 (k+1):=λr=>aF (by rw[bJ];unfold bI;rw[if_neg (by decide),if_neg nd,if_neg (by decide),if_neg (by decide),if_pos rfl])
   refine⟨a,t,k+1,l1,d+1,rfl,rfl,c9,by lia,hj,λc e p l' h1 h2 h3 h4 h5 u h6=>?_,λi hi M'=>?_⟩
   ·have:=hR (.hue ((c:Int) - 48) ((e:Int) - 48) p) l' ⟨by lia,by lia,h3⟩ (by rw[Pat.depth];lia) (by rw[h5,Pat.tl,gY h1,gY h2];simp) _ ⟨u,rfl,h6⟩
    have e:k+(Pat.hue ((c:Int) - 48) ((e:Int) - 48) p).tl.length=k+1+2+p.tl.length:=by rw[Pat.tl,gY h1,gY h2];simp;lia
    rw[e] at this
    exact this
   ·rw[b8];exact hX i (λr=>by rw[hw];exact hi r) M'
theorem DZ(PR:V.T "over_from" ia fO)(PU:V.T "shifted_from" ib fP)(PV:V.T "rehue_from" ic fQ)(Oh:V.T "form_from" ie cD)(Kv:jc V)(uB:cE V)(Io:fR V)(Kw:jd V)(uD:V.m "int")(Kx:je V)(Ky:iZ V)(Kz:V.gi "DEEP" 5)(KA:ja V)(KC:jb V)(uI:dm V):∀ j,V.MM (6+2*j) "form_from" cD (dg j):=by
 intro j
 induction j with
 |zero=>exact CalMM.never Oh (λds M R RX=>BM)
 |succ j ih=>
  have KD:=ih
  have M4:=DR (n:=6+2*j) (j:=j) (by omega) PR KD Kv uB
  have M5:=DU (n:=6+2*j) (j:=j) (by omega) PU Io KD Kw uB
  have M6:=DV (n:=6+2*j) (j:=j) (by omega) PV uD KD Kx uB
  have KD:=Cal.mono ih (FV _)
  exact DY (n:=6+2*j+1) (j:=j) (by omega) Oh M4 M5 KD M6 Ky Kz KA KC uI
abbrev ow(V:Bx):Prop:=V.M 1 "Reading" mD Bj
theorem D0(T:V.Ti "Reading" "Reading.__init__" mC mD)(IB:V.a "Reading" "text")(uF:V.a "Reading" "place"):ow V:=by
 refine Txi.okI T CP (λds R h=>?_) (λf cdv A outer s H E J hr=>⟨_,((bE IB (aa 1) (bE uF ad dE))),λds R h=>?_⟩)
 ·obtain⟨_,rfl,_⟩:=h;rfl
 ·obtain⟨t,rfl,hR⟩:=h
  refine⟨by decide,by show(1:Nat)<1000;decide,?_⟩
  show R (putD _ _ (putD _ _ []))
  rw[putD,putD,if_neg (by decide+kernel)]
  exact hR
abbrev oy(V:Bx):Prop:=V.M 1 "Pattern" mG BW
theorem D1(T:V.Ti "Pattern" "Pattern.__init__" mF mG)(M7:V.a "Pattern" "text")(uP:V.a "Pattern" "shifts")(JI:V.a "Pattern" "form"):oy V:=by
 refine Txi.okI T CQ (λds R h=>?_) (λf cdv A outer s H E J hr=>⟨_,((bE M7 (aa 1) (bE uP (aa 2) (bE JI (aa 3) dE)))),λds R h=>?_⟩)
 ·obtain⟨_,_,_,_,_,_,rfl,_⟩:=h;rfl
 ·obtain⟨t,w,h,s,x,fs,rfl,hR⟩:=h
  refine⟨by decide,by show(1:Nat)<1000;decide,by show(2:Nat)<1000;decide,?_⟩
  show R (putD _ _ (putD _ _ (putD _ _ [])))
  rw[show putD ("shifts":Str) (.tup [.int w,.int h,.int s]) (putD ("text":Str) (.str t) [])=([("text",.str t),("shifts",.tup [.int w,.int h,.int s])]:List (Str × D)) by rw[putD,putD,if_neg (by decide+kernel)];rfl,putD,if_neg (by decide+kernel),putD,if_neg (by decide+kernel)]
  exact hR
abbrev jg(V:Bx):Prop:=V.E 1 "OneLine" mI BY
theorem D2(T:V.Te "OneLine" "OneLine.__init__" mH mI)(JF:V.b "MotifError")(uAX:V.ea "OneLine")(M8:V.xf "OneLine" "place"):jg V:=by
 refine Txe.okE T CS (λds R h=>?_) (λf cdv A outer s H E J hr=>⟨_,((rh JF uAX (ac (aa 1) ae) (rj uAX M8 (aa 1) rg))),λds R h=>?_⟩)
 ·obtain⟨i,rfl,_⟩:=h;rfl
 ·obtain⟨i,rfl,hR⟩:=h
  exact⟨by show(1:Nat)<=1000;decide,rfl,hR⟩
abbrev oz(V:Bx):Prop:=V.D 2 "measure" mK AB
theorem D3(T:V.T "measure" mJ mK)(JG:iX V):oz V:=by
 refine Tx.okDW T sc_measure (λds R h=>?_) (λf cdv A outer s H E J hr=>⟨_,((ah (ai 2 sc_measure.nd (af (aq JG hr (ac (aJ (ac ad (ac (aa 0) ae))) (ac (aJ (ac ad (ac (aa 1) ae))) ae))) ad))
   (ak (au (aJ (ac (af (aa 2) ad) (ac (af (aa 2) ad) ae))))))),λds R h=>?_⟩)
 ·obtain⟨x,y,rfl,_⟩:=h;rfl
 ·obtain⟨x,y,rfl,hx,hy,hR⟩:=h
  refine⟨λd=>∃ p0 p1:Int,d= .tup [.int p0,.int p1]/\Meas x y p1 p0,⟨by simp,by simp,1,x,0,y,rfl,hx,hy,λp0 p1 q0 hL=>⟨_,rfl,p0,p1,rfl,sj ⟨hL.1,hL.2⟩⟩⟩,?_⟩
  rintro _ ⟨p0,p1,rfl,hM⟩;k_places
  exact⟨_,rfl,_,rfl,by simp,hR p1 p0 hM⟩
abbrev jh(V:Bx):Prop:=V.D 3 "met" mM AC
theorem D4(T:V.T "met" mL mM)(KE:oz V):jh V:=by
 refine Tx.okDW T sc_met (λds R h=>?_) (λf cdv A outer s H E J hr=>⟨_,((ah (ai 2 sc_met.nd (aq KE hr (ac (af (aa 0) ad) (ac (af (aa 1) ad) ae))))
   (ah (ai 3 sc_met.nd (aV (ar (af (aa 0) ad) (af (aa 1) ad)) (af (aa 2) ad)))
   (ah (ai 4 sc_met.nd (aV (ar (af (aa 0) ad) (af (aa 1) ad)) (af (aq KE hr (ac (af (aa 0) ad) (ac (af (aa 1) ad) ae))) ad)))
   (ah (ai 5 sc_met.nd (ar (aV (aa 4) (af (aa 0) ad)) (af (aa 0) ad)))
   (ah (ai 6 sc_met.nd (bf (ar (aV (aa 4) (af (aa 1) ad)) (af (aa 1) ad)) (aa 5)))
   (ah (ai 7 sc_met.nd (aV (af (aa 2) ad) (af (aq KE hr (ac (af (aa 2) ad) (ac (aa 6) ae))) ad)))
   (ah (ai 8 sc_met.nd (ar (aV (ar (aa 7) (aa 6)) (af (aa 2) ad)) (af (aa 2) ad)))
   (ak (au (aJ (ac (aa 3) (ac (ar (aa 4) (aa 7)) (ac (av (am (ar (aa 7) (aa 5)) (ar (aa 8) (af (aa 0) ad))) (aa 3)) ae)))))))))))))),λds R h=>?_⟩)
 ·obtain⟨_,_,_,_,_,_,rfl,_⟩:=h;rfl
 ·obtain⟨w1,h1,s1,w2,h2,s2,rfl,a1,a2,a3,a4,a5,a6,b1,b2,b3,b4,b5,b6,hR⟩:=h
  refine⟨λd=>∃ g u:Int,d= .tup [.int g,.int u]/\Meas w1 w2 g u,⟨_,rfl,_,rfl,w1,w2,rfl,by lia,by lia,λg u M=>⟨g,u,rfl,M⟩⟩,?_⟩
  rintro _ ⟨g,u,rfl,M1⟩;k_places
  have hg:=M1.pos a1
  have Mq:=M1.le a1
  refine⟨λd=>d= .int (w1*w2 / g),⟨_,rfl,_,rfl,.inl (b64 a1 a2),_,rfl,d30 hg (GT Mq a2),rfl⟩,?_⟩;rintro _ rfl;k_places
  refine⟨λd=>∃ k u':Int,d= .int (h1*h2 / k)/\Meas h1 h2 k u',⟨_,rfl,_,rfl,.inl (b64 a3 a4),_,rfl,_,rfl,h1,h2,rfl,by lia,by lia,λk u' M=>⟨_,rfl,d30 (M.pos a3) (GT (M.le a3) a4),k,u',rfl,M⟩⟩,?_⟩
  rintro _ ⟨k,u',rfl,M2⟩;k_places
  obtain⟨r0,r1,r2,r3,r4,r5⟩:=kh a3 b3 M2
  have PX:h1*h2<=518400:=by
   have:=bx (a:=h1) (d:=h2) (A:=720) (B:=720) (by lia) (by lia)
   lia
  refine⟨λd=>d= .int (h1*h2 / k / h1*s1),⟨_,rfl,d30 a3 a4,_,rfl,.inr (s64 a5 a6 a2),rfl⟩,?_⟩;rintro _ rfl;k_places
  refine⟨λd=>d= .int (h1*h2 / k / h2*s2 - h1*h2 / k / h1*s1),⟨_,rfl,d30 b3 b4,_,rfl,.inr (s64 b5 b6 b2),rfl⟩,?_⟩;rintro _ rfl;k_places
  have t1:=bx (a:=h1*h2 / k / h1) (d:=s1) (A:=720) (B:=720) (by lia) (by lia)
  have t2:=bx (a:=h1*h2 / k / h2) (d:=s2) (A:=720) (B:=720) (by lia) (by lia)
  refine⟨λd=>∃ gg t8:Int,d= .int (g / gg)/\Meas g (h1*h2 / k / h2*s2 - h1*h2 / k / h1*s1) gg t8,⟨_,rfl,_,rfl,g,_,rfl,by lia,by lia,λgg t8 M=>⟨_,rfl,d30 (M.pos hg) (GT (M.le hg) (GT Mq a2)),gg,t8,rfl,M⟩⟩,?_⟩
  rintro _ ⟨gg,t8,rfl,M3⟩;k_places
  have G_:=M3.pos hg
  have c1:0<=g / gg:=Hk (by lia) (by lia)
  have c2:g / gg<=g:=Hl _ (by lia)
  have c3:=bx (a:=g / gg) (d:=h1*h2 / k / h2*s2 - h1*h2 / k / h1*s1) (A:=720) (B:=1036800) (by lia) (by lia)
  have c4:(g / gg*(h1*h2 / k / h2*s2 - h1*h2 / k / h1*s1) / g).natAbs<=746496001:=by
   have e:=Int.natAbs_ediv_le_natAbs (g / gg*(h1*h2 / k / h2*s2 - h1*h2 / k / h1*s1)) g
   lia
  have mr:=kg a1 b1 a3 b3 M1 M2 M3
  refine⟨λd=>d= .int (g / gg*(h1*h2 / k / h2*s2 - h1*h2 / k / h1*s1) / g*u),⟨.inl ⟨by lia,by lia⟩,_,rfl,⟨by lia,by lia⟩,_,rfl,.inl ⟨by lia,by lia⟩,rfl⟩,?_⟩;rintro _ rfl;k_places
  obtain⟨w0,w3,_⟩:=kh a1 b1 M1
  have PY:w1*w2<=518400:=by
   have:=bx (a:=w1) (d:=w2) (A:=720) (B:=720) (by lia) (by lia)
   lia
  have Kl:=bx (a:=h1*h2 / k) (d:=g / gg) (A:=518400) (B:=720) (by lia) (by lia)
  exact⟨.inl ⟨by lia,by lia⟩,.inl ⟨by lia,by lia⟩,_,rfl,.inr ⟨by lia,by lia⟩,w0,by simp,hR _ _ _ _ mr (by lia) (by lia)⟩
abbrev ji(V:Bx):Prop:=V.D 1 "mirrored" mO Az
theorem D5(T:V.T "mirrored" mN mO):ji V:=by
 refine Tx.okDW T CT (λds R h=>?_) (λf cdv A outer s H E J hr=>⟨_,((ak (au (aJ (ac (af (aa 0) ad) (ac (af (aa 0) ad) (ac (av (bW (af (aa 0) ad)) (af (aa 0) ad)) ae))))))),λds R h=>?_⟩)
 ·obtain⟨w,h,s,rfl,_⟩:=h;rfl
 ·obtain⟨w,h,s,rfl,hw,hR⟩:=h
  exact⟨_,rfl,_,rfl,_,rfl,_,rfl,hw,by simp,hR⟩
abbrev jj(V:Bx):Prop:=V.D 3 "turned" mR AA
theorem D6(T:V.T "turned" mQ mR)(JH:iY V):jj V:=by
 refine Tx.okDW T CU (λds R h=>?_) (λf cdv A outer s H E J hr=>⟨_,((ak (au (aq JH hr (ac (aJ (ac ad (ac (af (aa 0) ad) ae))) (ac (aJ (ac (bW (af (aa 0) ad)) (ac (af (aa 0) ad) ae))) ae)))))),λds R h=>?_⟩)
 ·obtain⟨w,h,s,rfl,_⟩:=h;rfl
 ·obtain⟨w,h,s,rfl,hw,hh,v_,y9,hs,m5,hR⟩:=h
  have hp:0<w*h:=Fc hw hh
  have hn:¬ 0*s=w* -h:=by rw[FO];lia
  exact⟨_,rfl,by simp,_,rfl,_,rfl,by simp,0,w,-h,s,rfl,by lia,by lia,by lia,by lia,λe=>absurd e hn,λ_ w' h' s' f=>hR w' h' s' f⟩
theorem ok_Motif_family{n j:Nat}(hL:3<=n)(T:V.Tm "Motif" "family" "Motif.family" ig cn)(uJ:V.a "Motif" "shifts")(IC:V.a "Motif" "place")(uAK:jg V):V.Q (n+1) "Motif" "family" cn (ofX (bM (j+1) "Motif")):=by
 refine Txm.okM T CV (λds M R RX h=>?_) (λf cdv A outer s H E J hr hx=>⟨_,((aA (cb (rD (aL uJ (aj (aa 0))) (aj cG)) (aE (jX (hn:=by omega) uAK hr hx rfl (aR (aL IC (aj (aa 0))) bo))) bQ)
   (aE (aM (aL uJ (aj (aa 0))))))),λds M R RX b8 h=>?_⟩)
 ·obtain⟨_,_,_,rfl,_⟩:=h;rfl
 ·obtain⟨p,k,v,rfl,hv,hs,hd,hc,f6,hX,hR⟩:=h
  cases p with
  |over p q=>exact absurd (show("Over":Str)="Motif" from hc) (by decide+kernel)
  |sh a b p=>exact absurd (show("Shifted":Str)="Motif" from hc) (by decide+kernel)
  |mir p=>exact absurd (show("Mirror":Str)="Motif" from hc) (by decide+kernel)
  |tur p=>exact absurd (show("Turn":Str)="Motif" from hc) (by decide+kernel)
  |hue f g p=>exact absurd (show("Rehue":Str)="Motif" from hc) (by decide+kernel)
  |mot L a b c d=>
   obtain⟨sh,hu,rfl,h0,h1⟩:=hv
   refine⟨_,⟨rfl,rfl⟩,_,kz,?_⟩
   by_cases e:a*d=b*c
   ·rw[h0 e]
    refine⟨_,⟨rfl,rfl⟩,_,BN,by show(1:Nat)<=1000;decide,(k:Int),rfl,?_⟩
    rw[b8]
    exact hX k (by rw[Pat.lineAt,if_pos e])
   ·obtain⟨w,h,s,F,rfl,rfl⟩:=h1 e
    exact⟨_,⟨rfl,rfl⟩,_,kz,hR (by rw[Pat.lineAt,if_neg e]) w h s (Pat.Fam.mot F)⟩
theorem D7{n j:Nat}(hL:3<=n)(T:V.Tm "Over" "family" "Over.family" ii ij)(KG:jh V)(uS:V.a "Over" "above")(uU:V.a "Over" "below")(uE:∀ x,x∈(["Motif","Over","Shifted","Mirror","Turn","Rehue"]:List Str)->V.Q n x "family" cn (ofX (bM j x))):V.Q (n+1) "Over" "family" ij (ofX (bM (j+1) "Over")):=by
 refine Txm.okM T sc_Over_family (λds M R RX h=>?_) (λf cdv A outer s H E J hr hx=>⟨_,((aA (bb 1 sc_Over_family.nd (dF (hn:=by omega) uE hx hr (aL uS (aj (aa 0)))))
   (aE (aM (aZ (hn:=by omega) (CalD.toM KG) hx hr (aR (aj (aa 1)) (aR (dF (hn:=by omega) uE hx hr (aL uU (aj (aa 0)))) bo))))))),λds M R RX b8 h=>?_⟩)
 ·obtain⟨_,_,_,rfl,_⟩:=h;rfl
 ·obtain⟨p,k,v,rfl,hv,hs,hd,hc,f6,hX,hR⟩:=h
  cases p with
  |mot L a b c d=>exact absurd (show("Motif":Str)="Over" from hc) (by decide+kernel)
  |sh a b p=>exact absurd (show("Shifted":Str)="Over" from hc) (by decide+kernel)
  |mir p=>exact absurd (show("Mirror":Str)="Over" from hc) (by decide+kernel)
  |tur p=>exact absurd (show("Turn":Str)="Over" from hc) (by decide+kernel)
  |hue f g p=>exact absurd (show("Rehue":Str)="Over" from hc) (by decide+kernel)
  |over p q=>
   obtain⟨u,u',rfl,hu,KH⟩:=hv
   obtain⟨fs,rfl,hf,_⟩:=hu.objm
   obtain⟨gs,rfl,hg,_⟩:=KH.objm
   rw[Pat.depth] at hd
   refine⟨λd M'=>(∃ w h s,p.lineAt (k+1)=none/\p.Fam w h s/\d= .tup [.int w,.int h,.int s])/\M'=M,⟨_,⟨rfl,rfl⟩,_,rfl,p.cls,p.cls_mem,fs,⟨rfl,rfl⟩,hf,p,k+1,_,rfl,hu,hs.1,by lia,rfl,f6.1,λi hi=>?_,λhn w h s F=>⟨⟨w,h,s,hn,F,rfl⟩,rfl⟩⟩,?_⟩
   ·rw[b8]
    exact hX i (by rw[Pat.lineAt,hi])
   rintro _ _ ⟨⟨w1,h1,s1,M9,F1,rfl⟩,rfl⟩;k_places
   refine⟨_,⟨rfl,rfl⟩,_,eX (by decide+kernel),q.cls,q.cls_mem,gs,⟨rfl,rfl⟩,hg,q,k+1+p.tl.length+1,_,rfl,KH,hs.2,by lia,rfl,f6.2.1,λi hi=>?_,λy8 w2 h2 s2 F2=>?_⟩
   ·rw[b8]
    exact hX i (by rw[Pat.lineAt,M9];exact hi)
   ·obtain⟨f1,f2⟩:=f6.2.2 (Pat.line_wf _ hs.1 M9) (Pat.line_wf _ hs.2 y8)
    obtain⟨a1,a2,a3,a4,a5,a6⟩:=f1.small F1
    obtain⟨b1,b2,b3,b4,b5,b6⟩:=f2.small F2
    exact⟨w1,h1,s1,w2,h2,s2,rfl,a1,a2,a3,a4,a5,a6,b1,b2,b3,b4,b5,b6,λw h s A MR _ _=>hR (by rw[Pat.lineAt,M9];exact y8) w h s (Pat.Fam.over F1 F2 MR)⟩
theorem D8{n j:Nat}(hL:3<=n)(T:V.Tm "Shifted" "family" "Shifted.family" ik il)(uT:V.a "Shifted" "form")(uE:∀ x,x∈(["Motif","Over","Shifted","Mirror","Turn","Rehue"]:List Str)->V.Q n x "family" cn (ofX (bM j x))):V.Q (n+1) "Shifted" "family" il (ofX (bM (j+1) "Shifted")):=by
 refine Txm.okM T CW (λds M R RX h=>?_) (λf cdv A outer s H E J hr hx=>⟨_,((aE (aM (dF (hn:=by omega) uE hx hr (aL uT (aj (aa 0))))))),λds M R RX b8 h=>?_⟩)
 ·obtain⟨_,_,_,rfl,_⟩:=h;rfl
 ·obtain⟨p,k,v,rfl,hv,hs,hd,hc,f6,hX,hR⟩:=h
  cases p with
  |mot L a b c d=>exact absurd (show("Motif":Str)="Shifted" from hc) (by decide+kernel)
  |over p q=>exact absurd (show("Over":Str)="Shifted" from hc) (by decide+kernel)
  |mir p=>exact absurd (show("Mirror":Str)="Shifted" from hc) (by decide+kernel)
  |tur p=>exact absurd (show("Turn":Str)="Shifted" from hc) (by decide+kernel)
  |hue f g p=>exact absurd (show("Rehue":Str)="Shifted" from hc) (by decide+kernel)
  |sh a b p=>
   obtain⟨u,rfl,hu⟩:=hv
   obtain⟨fs,rfl,hf,_⟩:=hu.objm
   rw[Pat.depth] at hd
   refine⟨_,⟨rfl,rfl⟩,_,rfl,p.cls,p.cls_mem,fs,⟨rfl,rfl⟩,hf,p,_,_,rfl,hu,hs.2.2,by lia,rfl,f6,λi hi=>?_,λhn w h s F=>?_⟩
   ·rw[b8]
    exact hX i (by rw[Pat.lineAt];exact hi)
   ·exact hR (by rw[Pat.lineAt];exact hn) w h s (F.sh a b)
theorem D9{n j:Nat}(hL:3<=n)(T:V.Tm "Mirror" "family" "Mirror.family" im io)(KI:ji V)(uR:V.a "Mirror" "form")(uE:∀ x,x∈(["Motif","Over","Shifted","Mirror","Turn","Rehue"]:List Str)->V.Q n x "family" cn (ofX (bM j x))):V.Q (n+1) "Mirror" "family" io (ofX (bM (j+1) "Mirror")):=by
 refine Txm.okM T CY (λds M R RX h=>?_) (λf cdv A outer s H E J hr hx=>⟨_,((aE (aM (aZ (hn:=by omega) (CalD.toM KI) hx hr (aR (dF (hn:=by omega) uE hx hr (aL uR (aj (aa 0)))) bo))))),λds M R RX b8 h=>?_⟩)
 ·obtain⟨_,_,_,rfl,_⟩:=h;rfl
 ·obtain⟨p,k,v,rfl,hv,hs,hd,hc,f6,hX,hR⟩:=h
  cases p with
  |mot L a b c d=>exact absurd (show("Motif":Str)="Mirror" from hc) (by decide+kernel)
  |over p q=>exact absurd (show("Over":Str)="Mirror" from hc) (by decide+kernel)
  |sh a b p=>exact absurd (show("Shifted":Str)="Mirror" from hc) (by decide+kernel)
  |tur p=>exact absurd (show("Turn":Str)="Mirror" from hc) (by decide+kernel)
  |hue f g p=>exact absurd (show("Rehue":Str)="Mirror" from hc) (by decide+kernel)
  |mir p=>
   obtain⟨u,rfl,hu⟩:=hv
   obtain⟨fs,rfl,hf,_⟩:=hu.objm
   rw[Pat.depth] at hd
   refine⟨_,⟨rfl,rfl⟩,_,rfl,p.cls,p.cls_mem,fs,⟨rfl,rfl⟩,hf,p,_,_,rfl,hu,hs,by lia,rfl,f6,λi hi=>?_,λhn w h s F=>?_⟩
   ·rw[b8]
    exact hX i (by rw[Pat.lineAt];exact hi)
   ·exact⟨w,h,s,rfl,F.f.w0,hR (by rw[Pat.lineAt];exact hn) w h _ F.mir⟩
theorem Ea{n j:Nat}(hL:3<=n)(T:V.Tm "Turn" "family" "Turn.family" ip iq)(KJ:jj V)(uQ:V.a "Turn" "form")(uE:∀ x,x∈(["Motif","Over","Shifted","Mirror","Turn","Rehue"]:List Str)->V.Q n x "family" cn (ofX (bM j x))):V.Q (n+1) "Turn" "family" iq (ofX (bM (j+1) "Turn")):=by
 refine Txm.okM T CZ (λds M R RX h=>?_) (λf cdv A outer s H E J hr hx=>⟨_,((aE (aM (aZ (hn:=by omega) (CalD.toM KJ) hx hr (aR (dF (hn:=by omega) uE hx hr (aL uQ (aj (aa 0)))) bo))))),λds M R RX b8 h=>?_⟩)
 ·obtain⟨_,_,_,rfl,_⟩:=h;rfl
 ·obtain⟨p,k,v,rfl,hv,hs,hd,hc,f6,hX,hR⟩:=h
  cases p with
  |mot L a b c d=>exact absurd (show("Motif":Str)="Turn" from hc) (by decide+kernel)
  |over p q=>exact absurd (show("Over":Str)="Turn" from hc) (by decide+kernel)
  |sh a b p=>exact absurd (show("Shifted":Str)="Turn" from hc) (by decide+kernel)
  |mir p=>exact absurd (show("Mirror":Str)="Turn" from hc) (by decide+kernel)
  |hue f g p=>exact absurd (show("Rehue":Str)="Turn" from hc) (by decide+kernel)
  |tur p=>
   obtain⟨u,rfl,hu⟩:=hv
   obtain⟨fs,rfl,hf,_⟩:=hu.objm
   rw[Pat.depth] at hd
   refine⟨_,⟨rfl,rfl⟩,_,rfl,p.cls,p.cls_mem,fs,⟨rfl,rfl⟩,hf,p,_,_,rfl,hu,hs,by lia,rfl,f6.1,λi hi=>?_,λhn w h s F=>?_⟩
   ·rw[b8]
    exact hX i (by rw[Pat.lineAt];exact hi)
   ·obtain⟨a1,a2,a3,a4,a5,a6⟩:=(f6.2 (Pat.line_wf _ hs hn)).small F
    exact⟨w,h,s,rfl,a1,a3,by lia,by lia,a5,by lia,λw' h' s' F'=>hR (by rw[Pat.lineAt];exact hn) w' h' s' (F.tur F')⟩
theorem Eb{n j:Nat}(hL:3<=n)(T:V.Tm "Rehue" "family" "Rehue.family" ir iu)(uO:V.a "Rehue" "form")(uE:∀ x,x∈(["Motif","Over","Shifted","Mirror","Turn","Rehue"]:List Str)->V.Q n x "family" cn (ofX (bM j x))):V.Q (n+1) "Rehue" "family" iu (ofX (bM (j+1) "Rehue")):=by
 refine Txm.okM T C0 (λds M R RX h=>?_) (λf cdv A outer s H E J hr hx=>⟨_,((aE (aM (dF (hn:=by omega) uE hx hr (aL uO (aj (aa 0))))))),λds M R RX b8 h=>?_⟩)
 ·obtain⟨_,_,_,rfl,_⟩:=h;rfl
 ·obtain⟨p,k,v,rfl,hv,hs,hd,hc,f6,hX,hR⟩:=h
  cases p with
  |mot L a b c d=>exact absurd (show("Motif":Str)="Rehue" from hc) (by decide+kernel)
  |over p q=>exact absurd (show("Over":Str)="Rehue" from hc) (by decide+kernel)
  |sh a b p=>exact absurd (show("Shifted":Str)="Rehue" from hc) (by decide+kernel)
  |mir p=>exact absurd (show("Mirror":Str)="Rehue" from hc) (by decide+kernel)
  |tur p=>exact absurd (show("Turn":Str)="Rehue" from hc) (by decide+kernel)
  |hue f g p=>
   obtain⟨u,rfl,hu⟩:=hv
   obtain⟨fs,rfl,hf,_⟩:=hu.objm
   rw[Pat.depth] at hd
   refine⟨_,⟨rfl,rfl⟩,_,rfl,p.cls,p.cls_mem,fs,⟨rfl,rfl⟩,hf,p,_,_,rfl,hu,hs.2.2,by lia,rfl,f6,λi hi=>?_,λhn w h s F=>?_⟩
   ·rw[b8]
    exact hX i (by rw[Pat.lineAt];exact hi)
   ·exact hR (by rw[Pat.lineAt];exact hn) w h s (F.hue f g)
theorem Ec(Oi:V.Tm "Motif" "family" "Motif.family" ig cn)(Oj:V.Tm "Over" "family" "Over.family" ii ij)(Ol:V.Tm "Shifted" "family" "Shifted.family" ik il)(Om:V.Tm "Mirror" "family" "Mirror.family" im io)(On:V.Tm "Turn" "family" "Turn.family" ip iq)(Oo:V.Tm "Rehue" "family" "Rehue.family" ir iu)(uJ:V.a "Motif" "shifts")(IC:V.a "Motif" "place")(uAK:jg V)(KG:jh V)(uS:V.a "Over" "above")(uU:V.a "Over" "below")(uT:V.a "Shifted" "form")(KI:ji V)(uR:V.a "Mirror" "form")(KJ:jj V)(uQ:V.a "Turn" "form")(uO:V.a "Rehue" "form"):∀ j x,x∈(["Motif","Over","Shifted","Mirror","Turn","Rehue"]:List Str)->V.Q (3+j) x "family" cn (ofX (bM j x)):=by
 intro j
 induction j with
 |zero=>
  intro x hx
  simp only[EU,FY,or_false] at hx
  rcases hx with rfl|rfl|rfl|rfl|rfl|rfl
  ·exact CalMth.never Oi (λds M R RX=>eY)
  ·exact CalMth.never Oj (λds M R RX=>eY)
  ·exact CalMth.never Ol (λds M R RX=>eY)
  ·exact CalMth.never Om (λds M R RX=>eY)
  ·exact CalMth.never On (λds M R RX=>eY)
  ·exact CalMth.never Oo (λds M R RX=>eY)
 |succ j KL=>
  intro x hx
  simp only[EU,FY,or_false] at hx
  rcases hx with rfl|rfl|rfl|rfl|rfl|rfl
  ·exact ok_Motif_family (n:=3+j) (j:=j) (by omega) Oi uJ IC uAK
  ·exact D7 (n:=3+j) (j:=j) (by omega) Oj KG uS uU KL
  ·exact D8 (n:=3+j) (j:=j) (by omega) Ol uT KL
  ·exact D9 (n:=3+j) (j:=j) (by omega) Om KI uR KL
  ·exact Ea (n:=3+j) (j:=j) (by omega) On KJ uQ KL
  ·exact Eb (n:=3+j) (j:=j) (by omega) Oo uO KL
abbrev uc(V:Bx):Prop:=V.MM 18 "form_from" cD (dg 6)
abbrev ud(V:Bx):Prop:=∀ x,x∈(["Motif","Over","Shifted","Mirror","Turn","Rehue"]:List Str)->V.Q 9 x "family" cn (ofX (bM 6 x))
abbrev oA(V:Bx):Prop:=V.X 19 "read" mV tK
theorem Ed(T:V.T "read" mU mV)(uC:V.m "len")(uH:uc V)(M_:V.gi "MOST" 720)(uF:V.a "Reading" "place")(Na:ow V)(Nb:oy V)(uE:ud V)(uAC:iW V)(Nc:V.n "TooGreat"):oA V:=by
 refine CalMM.nilX (Tx.okM T sc_read (λds M R RX h=>?_) (λf cdv A outer s H E J hr hx=>⟨_,((aA (bb 1 sc_read.nd (zp Na hr (aD (ac (aa 0) ae))))
   (aA (bb 2 sc_read.nd (aZ uH hx hr (aD (ac (aa 1) (ac ad ae)))))
   (aA (cb (rC (aL uF (aj (aa 1))) (aj (cQ uC (ac (aa 0) ae)))) (aE (jX uAC hr hx rfl (aR (aL uF (aj (aa 1))) bo))) bQ)
   (aA (bb 3 sc_read.nd (dF uE hx hr (aj (aa 2))))
   (aA (cb (ca (qC (ar (af (aa 3) ad) (af (aa 3) ad)) (fG M_))) (aE (zv Nc hx rfl (aD (ac ax ae)))) bQ)
   (aE (aM (aj (jN Nb hr (ac (aa 0) (ac (aa 3) (ac (aa 2) ae))))))))))))),λds M R RX b8 h=>?_⟩))
 ·obtain⟨_,R0,G',h,_⟩:=h
  rcases h with⟨_,_,rfl,_⟩|⟨_,rfl,_⟩<;>rfl
 ·obtain⟨rfl,R0,G',h,hR,hX⟩:=h
  obtain⟨t,ht,PZ,x8⟩:∃ t:Str,ds=[.str t]/\t.length<=100000/\((∃ k:Nat,cY t=some k/\G' "WrongSign" [("place",.int k)])\/∃ p:Pat,t=p.text/\p.Syn/\p.depth<=5/\p.Cal/\(∀ k:Nat,p.lineAt 0=some k->G' "OneLine" [("place",.int k)])/\(p.lineAt 0=none->¬ p.Fits->G' "TooGreat" [])/\(p.lineAt 0=none->p.Fits->∀ d,bv p d->R0 d)):=by
   rcases h with⟨t,k,e,h1,h2,h3⟩|⟨p,e,h1,h2,h3⟩
   ·exact⟨t,e,h1,.inl ⟨k,h2,h3⟩⟩
   ·exact⟨p.text,e,by have:=Pat.syn_short h1 h2;lia,.inr ⟨p,rfl,h1,h2,h3⟩⟩
  subst ht
  have d6:At t 0 (cs t):=⟨rfl,Fp _,PZ⟩
  refine⟨λd M'=>∃ a,d= .ptr a/\M'=RdM a t 0,⟨t,rfl,λa _=>⟨a,rfl,rfl⟩⟩,?_⟩
  rintro _ _ ⟨a,rfl,rfl⟩;k_places
  refine⟨λv M'=>∃ p l',p.Syn/\p.depth<=5/\cs t=p.tl++l'/\FormOf p 0 v/\M'=RdM a t p.tl.length,⟨a,t,0,cs t,0,rfl,rfl,d6,rfl,by decide,λp l' h1 h2 h3 v h4=>⟨p,l',h1,by lia,h3,h4,by rw[Gv]⟩,λi hi M'=>?_⟩,?_⟩
  ·rw[b8]
   have hw:cY t=some i:=hi []
   rcases x8 with⟨k,h1,h2⟩|⟨p,rfl,h1,h2,_⟩
   ·rw[hw] at h1
    cases h1
    exact hX _ _ _ h2
   ·rw[sT h1 h2] at hw
    cases hw
  rintro v _ ⟨p,l',hp,M0,hl,hv,rfl⟩;k_places
  have hw:cY t=walk [] l' p.tl.length:=by
   unfold cY
   rw[hl,cA hp 0 [] l' 0 (by lia),Gv]
  have b7:t.length=p.tl.length+l'.length:=by rw[<- bq,hl,E2]
  refine⟨_,aN,_,db,by lia,ite2 (λc=>?_) (λc=>?_)⟩
  ·have c':=of_decide_eq_true c
   refine⟨_,aN,_,db,by show(1:Nat)<=1000;decide,(p.tl.length:Int),rfl,?_⟩
   rw[b8]
   have v_:cY t=some p.tl.length:=by
    rw[hw]
    cases l' with
    |nil=>simp at b7;lia
    |cons c l=>simp[walk,step,aI,aK]
   rcases x8 with⟨k,h1,h2⟩|⟨q,rfl,h1,h2,_⟩
   ·rw[v_] at h1
    cases h1
    exact hX _ _ _ h2
   ·rw[sT h1 h2] at v_
    cases v_
  have c':¬ ((p.tl.length:Int)<(t.length:Int)):=λz=>c (decide_eq_true z)
  have P0:l'=[]:=G3 (by lia)
  subst P0
  rcases x8 with⟨k,h1,h2⟩|⟨q,rfl,h1,h2,f6,Nd,Jl,KN⟩
  ·rw[hw] at h1
   cases h1
  obtain⟨rfl,_⟩:=BV (p:=q) (q:=p) (x:=[]) (y:=[]) h1 hp (by rw[<- cZ,hl];simp)
  obtain⟨fs,rfl,hf,_⟩:=hv.objm
  refine⟨λd M'=>∃ w h s,q.lineAt 0=none/\q.Fam w h s/\d= .tup [.int w,.int h,.int s],⟨q.cls,q.cls_mem,fs,⟨rfl,rfl⟩,hf,q,0,_,rfl,hv,hp,by lia,rfl,f6,λi hi=>?_,λhn w h s F=>⟨w,h,s,hn,F,rfl⟩⟩,?_⟩
  ·rw[b8]
   exact hX _ _ _ (Nd i hi)
  rintro _ M' ⟨w,h,s,hn,F,rfl⟩;k_places
  have e8:=Pat.line_wf 0 hp hn
  have Od:=Pat.cal_w e8 f6 F
  have Px:=F.f.w0
  refine⟨_,rfl,_,rfl,.inl ⟨by lia,by lia⟩,ite2 (λc=>?_) (λc=>?_)⟩
  ·have c2:=of_decide_eq_true c
   refine⟨by show(1:Nat)<=1000;decide,?_⟩
   rw[b8]
   refine hX _ _ _ (Jl hn λ⟨w',h',s',F',hb⟩=>?_)
   obtain⟨rfl,rfl,_⟩:=F.uniq F'
   lia
  ·have c2:¬ (720<w*h):=λz=>c (decide_eq_true z)
   refine⟨_,_,_,_,_,_,rfl,hR _ _ (KN hn ⟨w,h,s,F,by lia⟩ _ ⟨w,h,s,_,rfl,rfl,eX (by decide+kernel),⟨F,0,_,kA (by decide+kernel) (by decide+kernel),hv⟩⟩)⟩
abbrev jk(V:Bx):Prop:=V.X 1 "refuse_far" mY B0
theorem Ee(T:V.T "refuse_far" mW mY)(uV:V.m "max")(uN:V.m "abs")(Nf:V.gi "FAR" 1000000000000)(Ng:V.n "TooFar"):jk V:=by
 refine Tx.okXW T C1 (λds R RX h=>?_) (λf cdv A outer s H E J hr hx=>⟨_,((ak (bg (qC (gy rfl uV (ac (eg uN (ac (aa 0) ae)) (ac (eg uN (ac (aa 1) ae)) ae))) (fG Nf)) (ak (yD Ng hx rfl (ac ax ae))) aW))),λds R RX b8 h=>?_⟩)
 ·obtain⟨_,_,rfl,_⟩:=h;rfl
 ·obtain⟨x,y,rfl,h1,h2⟩:=h
  refine ite2 (λc=>?_) (λc=>?_)
  ·have c':=of_decide_eq_true c
   refine⟨by show(1:Nat)<=1000;decide,?_⟩
   rw[b8]
   refine h2 λ⟨⟨a1,a2⟩,a3,a4⟩=>?_
   split at c'<;>split at c'<;>split at c'<;>lia
  ·have c':¬ _:=λz=>c (decide_eq_true z)
   refine h1 ?_
   unfold aC
   split at c'<;>split at c'<;>split at c'<;>lia
theorem ok_Motif_shows{n j:Nat}(hL:1<=n)(T:V.Tm "Motif" "shows" "Motif.shows" iw cq)(uM:dR V)(ID:V.a "Motif" "hues")(uJ:V.a "Motif" "shifts"):V.Q (n+1) "Motif" "shows" cq (ofX (bN (j+1) "Motif")):=by
 refine Txm.okM T C3 (λds M R RX h=>?_) (λf cdv A outer s H E J hr hx=>⟨_,((aE (aM (zW (qe hr) (aL ID (aj (aa 0))) (aR (aZ (hn:=by omega) (CalD.toM uM) hx hr (aR (aL uJ (aj (aa 0))) (aR (aj (aa 1)) (aR (aj (aa 2)) bo)))) (aR (aj ad) bo)))))),λds M R RX b8 h=>?_⟩)
 ·obtain⟨_,_,_,_,_,rfl,_⟩:=h;rfl
 ·obtain⟨p,k,v,X,Y,rfl,hv,e8,hd,hc,hR⟩:=h
  cases p with
  |over p q=>exact absurd (show("Over":Str)="Motif" from hc) (by decide+kernel)
  |sh a b p=>exact absurd (show("Shifted":Str)="Motif" from hc) (by decide+kernel)
  |mir p=>exact absurd (show("Mirror":Str)="Motif" from hc) (by decide+kernel)
  |tur p=>exact absurd (show("Turn":Str)="Motif" from hc) (by decide+kernel)
  |hue f g p=>exact absurd (show("Rehue":Str)="Motif" from hc) (by decide+kernel)
  |mot L a b c d=>
   obtain⟨sh,hu,rfl,h0,h1⟩:=hv
   obtain⟨hL,ha,hb,Ix,f9,hn⟩:=e8
   obtain⟨w,h,s,F,rfl,rfl⟩:=h1 hn
   unfold B12 at ha hb Ix f9
   obtain⟨b1,b2,b3⟩:=F.bd (N:=288) (by
    have m1:=bx (a:=a) (d:=d) (A:=12) (B:=12) (by lia) (by lia)
    have m2:=bx (a:=b) (d:=c) (A:=12) (B:=12) (by lia) (by lia)
    lia)
   refine⟨_,⟨rfl,rfl⟩,_,BO,_,⟨rfl,rfl⟩,_,kz,w,h,s,X,Y,rfl,F.1,F.2.1,by lia,F.2.2.1,by lia,?_⟩
   have e:=motif_shows hL F hn X Y
   rw[Pat.show] at hR
   rw[<- e] at hR
   exact hR
theorem Ef{n j:Nat}(hL:1<=n)(T:V.Tm "Over" "shows" "Over.shows" iy iz)(uS:V.a "Over" "above")(uU:V.a "Over" "below")(uG:∀ x,x∈(["Motif","Over","Shifted","Mirror","Turn","Rehue"]:List Str)->V.Q n x "shows" cq (ofX (bN j x))):V.Q (n+1) "Over" "shows" iz (ofX (bN (j+1) "Over")):=by
 refine Txm.okM T sc_Over_shows (λds M R RX h=>?_) (λf cdv A outer s H E J hr hx=>⟨_,((aA (bb 3 sc_Over_shows.nd (aX (hn:=by omega) uG hx hr (aL uS (aj (aa 0))) (aD (ac (aa 1) (ac (aa 2) ae)))))
   (aE (aM (fJ (ca (bt (aa 3) ad)) (aX (hn:=by omega) uG hx hr (aL uU (aj (aa 0))) (aD (ac (aa 1) (ac (aa 2) ae)))) (aj (aa 3))))))),λds M R RX b8 h=>?_⟩)
 ·obtain⟨_,_,_,_,_,rfl,_⟩:=h;rfl
 ·obtain⟨p,k,v,X,Y,rfl,hv,e8,hd,hc,hR⟩:=h
  cases p with
  |mot L a b c d=>exact absurd (show("Motif":Str)="Over" from hc) (by decide+kernel)
  |sh a b p=>exact absurd (show("Shifted":Str)="Over" from hc) (by decide+kernel)
  |mir p=>exact absurd (show("Mirror":Str)="Over" from hc) (by decide+kernel)
  |tur p=>exact absurd (show("Turn":Str)="Over" from hc) (by decide+kernel)
  |hue f g p=>exact absurd (show("Rehue":Str)="Over" from hc) (by decide+kernel)
  |over p q=>
   obtain⟨u,u',rfl,hu,KH⟩:=hv
   obtain⟨fs,rfl,_,hf⟩:=hu.objm
   obtain⟨gs,rfl,_,hg⟩:=KH.objm
   rw[Pat.depth] at hd
   refine⟨λd M'=>d= .int (p.show X Y)/\M'=M,⟨_,⟨rfl,rfl⟩,_,rfl,p.cls,p.cls_mem,fs,⟨rfl,rfl⟩,hf,p,_,_,X,Y,rfl,hu,e8.1,by lia,rfl,rfl,rfl⟩,?_⟩
   rintro _ _ ⟨rfl,rfl⟩;k_places
   rw[Pat.show] at hR
   show if decide (p.show X Y=0)=true then _ else _
   refine ite2 (λe=>?_) (λe=>?_)
   ·have e':=of_decide_eq_true e
    rw[if_neg (λz=>z e')] at hR
    exact⟨_,⟨rfl,rfl⟩,_,eX (by decide+kernel),q.cls,q.cls_mem,gs,⟨rfl,rfl⟩,hg,q,_,_,X,Y,rfl,KH,e8.2,by lia,rfl,hR⟩
   ·have e':p.show X Y≠0:=λz=>e (decide_eq_true z)
    rw[if_pos e'] at hR
    exact hR
theorem Eg{n j:Nat}(hL:1<=n)(T:V.Tm "Shifted" "shows" "Shifted.shows" iA iB)(uT:V.a "Shifted" "form")(IF:V.a "Shifted" "y")(IE:V.a "Shifted" "x")(uG:∀ x,x∈(["Motif","Over","Shifted","Mirror","Turn","Rehue"]:List Str)->V.Q n x "shows" cq (ofX (bN j x))):V.Q (n+1) "Shifted" "shows" iB (ofX (bN (j+1) "Shifted")):=by
 refine Txm.okM T C4 (λds M R RX h=>?_) (λf cdv A outer s H E J hr hx=>⟨_,((aE (aM (aX (hn:=by omega) uG hx hr (aL uT (aj (aa 0))) (aR (jU (aj (aa 1)) (aL IE (aj (aa 0)))) (aR (jU (aj (aa 2)) (aL IF (aj (aa 0)))) bo)))))),λds M R RX b8 h=>?_⟩)
 ·obtain⟨_,_,_,_,_,rfl,_⟩:=h;rfl
 ·obtain⟨p,k,v,X,Y,rfl,hv,e8,hd,hc,hR⟩:=h
  cases p with
  |mot L a b c d=>exact absurd (show("Motif":Str)="Shifted" from hc) (by decide+kernel)
  |over p q=>exact absurd (show("Over":Str)="Shifted" from hc) (by decide+kernel)
  |mir p=>exact absurd (show("Mirror":Str)="Shifted" from hc) (by decide+kernel)
  |tur p=>exact absurd (show("Turn":Str)="Shifted" from hc) (by decide+kernel)
  |hue f g p=>exact absurd (show("Rehue":Str)="Shifted" from hc) (by decide+kernel)
  |sh a b p=>
   obtain⟨u,rfl,hu⟩:=hv
   obtain⟨fs,rfl,_,hf⟩:=hu.objm
   rw[Pat.depth] at hd
   exact⟨_,⟨rfl,rfl⟩,_,rfl,p.cls,p.cls_mem,fs,⟨rfl,rfl⟩,hf,_,⟨rfl,rfl⟩,_,eX (by decide+kernel),_,⟨rfl,rfl⟩,_,kA (by decide+kernel) (by decide+kernel),p,_,_,X - a,Y - b,rfl,hu,e8.2.2,by lia,rfl,hR⟩
theorem Eh{n j:Nat}(hL:1<=n)(T:V.Tm "Mirror" "shows" "Mirror.shows" iC iD)(uR:V.a "Mirror" "form")(uG:∀ x,x∈(["Motif","Over","Shifted","Mirror","Turn","Rehue"]:List Str)->V.Q n x "shows" cq (ofX (bN j x))):V.Q (n+1) "Mirror" "shows" iD (ofX (bN (j+1) "Mirror")):=by
 refine Txm.okM T C5 (λds M R RX h=>?_) (λf cdv A outer s H E J hr hx=>⟨_,((aE (aM (aX (hn:=by omega) uG hx hr (aL uR (aj (aa 0))) (aD (ac (bW (aa 1)) (ac (aa 2) ae))))))),λds M R RX b8 h=>?_⟩)
 ·obtain⟨_,_,_,_,_,rfl,_⟩:=h;rfl
 ·obtain⟨p,k,v,X,Y,rfl,hv,e8,hd,hc,hR⟩:=h
  cases p with
  |mot L a b c d=>exact absurd (show("Motif":Str)="Mirror" from hc) (by decide+kernel)
  |over p q=>exact absurd (show("Over":Str)="Mirror" from hc) (by decide+kernel)
  |sh a b p=>exact absurd (show("Shifted":Str)="Mirror" from hc) (by decide+kernel)
  |tur p=>exact absurd (show("Turn":Str)="Mirror" from hc) (by decide+kernel)
  |hue f g p=>exact absurd (show("Rehue":Str)="Mirror" from hc) (by decide+kernel)
  |mir p=>
   obtain⟨u,rfl,hu⟩:=hv
   obtain⟨fs,rfl,_,hf⟩:=hu.objm
   rw[Pat.depth] at hd
   exact⟨_,⟨rfl,rfl⟩,_,rfl,p.cls,p.cls_mem,fs,⟨rfl,rfl⟩,hf,p,_,_,-X,Y,rfl,hu,e8,by lia,rfl,hR⟩
theorem Ei{n j:Nat}(hL:1<=n)(T:V.Tm "Turn" "shows" "Turn.shows" iE iF)(uQ:V.a "Turn" "form")(uG:∀ x,x∈(["Motif","Over","Shifted","Mirror","Turn","Rehue"]:List Str)->V.Q n x "shows" cq (ofX (bN j x))):V.Q (n+1) "Turn" "shows" iF (ofX (bN (j+1) "Turn")):=by
 refine Txm.okM T C6 (λds M R RX h=>?_) (λf cdv A outer s H E J hr hx=>⟨_,((aE (aM (aX (hn:=by omega) uG hx hr (aL uQ (aj (aa 0))) (aD (ac (aa 2) (ac (bW (aa 1)) ae))))))),λds M R RX b8 h=>?_⟩)
 ·obtain⟨_,_,_,_,_,rfl,_⟩:=h;rfl
 ·obtain⟨p,k,v,X,Y,rfl,hv,e8,hd,hc,hR⟩:=h
  cases p with
  |mot L a b c d=>exact absurd (show("Motif":Str)="Turn" from hc) (by decide+kernel)
  |over p q=>exact absurd (show("Over":Str)="Turn" from hc) (by decide+kernel)
  |sh a b p=>exact absurd (show("Shifted":Str)="Turn" from hc) (by decide+kernel)
  |mir p=>exact absurd (show("Mirror":Str)="Turn" from hc) (by decide+kernel)
  |hue f g p=>exact absurd (show("Rehue":Str)="Turn" from hc) (by decide+kernel)
  |tur p=>
   obtain⟨u,rfl,hu⟩:=hv
   obtain⟨fs,rfl,_,hf⟩:=hu.objm
   rw[Pat.depth] at hd
   exact⟨_,⟨rfl,rfl⟩,_,rfl,p.cls,p.cls_mem,fs,⟨rfl,rfl⟩,hf,p,_,_,Y,-X,rfl,hu,e8,by lia,rfl,hR⟩
theorem Ej{n j:Nat}(hL:1<=n)(T:V.Tm "Rehue" "shows" "Rehue.shows" iG iH)(uO:V.a "Rehue" "form")(IG:V.a "Rehue" "old")(IH:V.a "Rehue" "new")(uG:∀ x,x∈(["Motif","Over","Shifted","Mirror","Turn","Rehue"]:List Str)->V.Q n x "shows" cq (ofX (bN j x))):V.Q (n+1) "Rehue" "shows" iH (ofX (bN (j+1) "Rehue")):=by
 refine Txm.okM T sc_Rehue_shows (λds M R RX h=>?_) (λf cdv A outer s H E J hr hx=>⟨_,((aA (bb 3 sc_Rehue_shows.nd (aX (hn:=by omega) uG hx hr (aL uO (aj (aa 0))) (aD (ac (aa 1) (ac (aa 2) ae)))))
   (aE (aM (fJ (gQ (aj (aa 3)) (aL IG (aj (aa 0)))) (aL IH (aj (aa 0))) (aj (aa 3))))))),λds M R RX b8 h=>?_⟩)
 ·obtain⟨_,_,_,_,_,rfl,_⟩:=h;rfl
 ·obtain⟨p,k,v,X,Y,rfl,hv,e8,hd,hc,hR⟩:=h
  cases p with
  |mot L a b c d=>exact absurd (show("Motif":Str)="Rehue" from hc) (by decide+kernel)
  |over p q=>exact absurd (show("Over":Str)="Rehue" from hc) (by decide+kernel)
  |sh a b p=>exact absurd (show("Shifted":Str)="Rehue" from hc) (by decide+kernel)
  |mir p=>exact absurd (show("Mirror":Str)="Rehue" from hc) (by decide+kernel)
  |tur p=>exact absurd (show("Turn":Str)="Rehue" from hc) (by decide+kernel)
  |hue f g p=>
   obtain⟨u,rfl,hu⟩:=hv
   obtain⟨fs,rfl,_,hf⟩:=hu.objm
   rw[Pat.depth] at hd
   refine⟨λd M'=>d= .int (p.show X Y)/\M'=M,⟨_,⟨rfl,rfl⟩,_,rfl,p.cls,p.cls_mem,fs,⟨rfl,rfl⟩,hf,p,_,_,X,Y,rfl,hu,e8.2.2,by lia,rfl,rfl,rfl⟩,?_⟩
   rintro _ _ ⟨rfl,rfl⟩;k_places
   rw[Pat.show] at hR
   unfold bB at hR
   refine⟨_,⟨rfl,rfl⟩,_,eX (by decide+kernel),ite2 (λe=>?_) (λe=>?_)⟩
   ·rw[if_pos (of_decide_eq_true e)] at hR
    exact⟨_,⟨rfl,rfl⟩,_,kA (by decide+kernel) (by decide+kernel),hR⟩
   ·rw[if_neg (λz=>e (decide_eq_true z))] at hR
    exact hR
theorem Ek(Op:V.Tm "Motif" "shows" "Motif.shows" iw cq)(Oq:V.Tm "Over" "shows" "Over.shows" iy iz)(Ot:V.Tm "Shifted" "shows" "Shifted.shows" iA iB)(Ou:V.Tm "Mirror" "shows" "Mirror.shows" iC iD)(Ov:V.Tm "Turn" "shows" "Turn.shows" iE iF)(Ow:V.Tm "Rehue" "shows" "Rehue.shows" iG iH)(uM:dR V)(ID:V.a "Motif" "hues")(uJ:V.a "Motif" "shifts")(uS:V.a "Over" "above")(uU:V.a "Over" "below")(uT:V.a "Shifted" "form")(IF:V.a "Shifted" "y")(IE:V.a "Shifted" "x")(uR:V.a "Mirror" "form")(uQ:V.a "Turn" "form")(uO:V.a "Rehue" "form")(IG:V.a "Rehue" "old")(IH:V.a "Rehue" "new"):∀ j x,x∈(["Motif","Over","Shifted","Mirror","Turn","Rehue"]:List Str)->V.Q (1+j) x "shows" cq (ofX (bN j x)):=by
 intro j
 induction j with
 |zero=>
  intro x hx
  simp only[EU,FY,or_false] at hx
  rcases hx with rfl|rfl|rfl|rfl|rfl|rfl
  ·exact CalMth.never Op (λds M R RX=>eZ)
  ·exact CalMth.never Oq (λds M R RX=>eZ)
  ·exact CalMth.never Ot (λds M R RX=>eZ)
  ·exact CalMth.never Ou (λds M R RX=>eZ)
  ·exact CalMth.never Ov (λds M R RX=>eZ)
  ·exact CalMth.never Ow (λds M R RX=>eZ)
 |succ j KO=>
  intro x hx
  simp only[EU,FY,or_false] at hx
  rcases hx with rfl|rfl|rfl|rfl|rfl|rfl
  ·exact ok_Motif_shows (n:=1+j) (j:=j) (by omega) Op uM ID uJ
  ·exact Ef (n:=1+j) (j:=j) (by omega) Oq uS uU KO
  ·exact Eg (n:=1+j) (j:=j) (by omega) Ot uT IF IE KO
  ·exact Eh (n:=1+j) (j:=j) (by omega) Ou uR KO
  ·exact Ei (n:=1+j) (j:=j) (by omega) Ov uQ KO
  ·exact Ej (n:=1+j) (j:=j) (by omega) Ow uO IG IH KO
abbrev ue(V:Bx):Prop:=∀ x,x∈(["Motif","Over","Shifted","Mirror","Turn","Rehue"]:List Str)->V.Q 7 x "shows" cq (ofX (bN 6 x))
abbrev fS(V:Bx):Prop:=V.X 8 "cell_at" ng tL
theorem El(T:V.T "cell_at" mZ ng)(Jn:jk V)(JI:V.a "Pattern" "form")(uG:ue V):fS V:=by
 refine CalMM.nilX (Tx.okM T C7 (λds M R RX h=>?_) (λf cdv A outer s H E J hr hx=>⟨_,((aA (ck (aZ (CalX.toM Jn) hx hr (aD (ac (aa 1) (ac (aa 2) ae)))))
   (aE (aM (aX uG hx hr (aL JI (aj (aa 0))) (aD (ac (aa 1) (ac (aa 2) ae)))))))),λds M R RX b8 h=>?_⟩))
 ·obtain⟨_,R0,G',⟨_,_,_,_,rfl,_⟩,_⟩:=h;rfl
 ·obtain⟨rfl,R0,G',⟨p,d,x,y,rfl,⟨w,h,s,fs,rfl,e1,e2,hp⟩,ok,h1,h2⟩,hR,hX⟩:=h
  obtain⟨k,v,e3,hv⟩:=hp.form
  obtain⟨gs,rfl,_,hg⟩:=hv.objm
  have Qv:=ok.deep
  refine⟨x,y,rfl,λhn=>?_,λhn=>?_⟩
  ·exact⟨_,⟨rfl,rfl⟩,_,e3,p.cls,p.cls_mem,gs,⟨rfl,rfl⟩,hg,p,k,_,x,y,rfl,hv,ok.wf,by lia,rfl,hR _ _ (h1 hn)⟩
  ·rw[b8]
   exact hX _ _ _ (h2 hn)
abbrev oB(V:Bx):Prop:=V.D 2 "_law_leaf_shows" nj AT
theorem Em(T:V.T "_law_leaf_shows" nh nj)(uA:V.m "range")(uC:V.m "len")(uD:V.m "int")(Jz:iR V):oB V:=by
 refine Tx.okDW T sc__law_leaf_shows (λds R h=>?_) (λf cdv A outer s H E J hr=>⟨_,((ah (ai 3 sc__law_leaf_shows.nd (af (aa 0) ad))
   (ah (ai 4 sc__law_leaf_shows.nd (am (am (ar (af (aa 3) ad) (aa 1)) (ar (af (aa 3) ad) (aa 2))) (af (aa 3) ad)))
   (ah (ai 5 sc__law_leaf_shows.nd (am (am (ar (af (aa 3) ad) (aa 1)) (ar (af (aa 3) ad) (aa 2))) (af (aa 3) ad)))
   (ah (cg 6 PassesOwn.never rfl sc__law_leaf_shows.nd uA (cQ uC (ac (af (aa 0) ad) ae)) (ak (cg 7 PassesOwn.never rfl sc__law_leaf_shows.nd uA (cQ uC (ac (af (af (aa 0) ad) (aa 6)) ae)) (ak (bg (dA (qG (cw (af (af (af (aa 0) ad) (aa 6)) (aa 7)) ax) (qF (bX (aq Jz hr (ac (af (aa 0) ad) (ac (af (aa 0) ad) (ac (bf (aa 4) (aa 7)) (ac (bf (aa 5) (aa 6)) ae))))))))) (ak (au (af (af (aa 0) ad) (fE uD (ac (af (af (af (aa 0) ad) (aa 6)) (aa 7)) ae))))) aW)))))
   (ak (au ad))))))),λds R h=>?_⟩)
 ·obtain⟨_,_,_,rfl,_⟩:=h;rfl
 ·obtain⟨l,x,y,rfl,ok,hR⟩:=h
  obtain⟨hm,wd,PJ,pc⟩:=id ok.rows
  refine⟨λd=>d= .tup [.int l.w0,.int l.w1,.int l.w2,.int l.w3,.int l.w4,.int l.w5],⟨_,rfl,rfl⟩,?_⟩;rintro _ rfl;k_places
  refine⟨λd=>d= .int (l.w0*x+l.w1*y+l.w4),⟨_,rfl,.inl (n64 ok.w0),_,rfl,.inl (n64 ok.w1),_,rfl,rfl⟩,?_⟩;rintro _ rfl;k_places
  refine⟨λd=>d= .int (l.w2*x+l.w3*y+l.w5),⟨_,rfl,.inl (n64 ok.w2),_,rfl,.inl (n64 ok.w3),_,rfl,rfl⟩,?_⟩;rintro _ rfl;k_places
  have II:R (.int (match l.hit x y with|some c=>cell l.hues ((c:Int) - 48)|none=>0)):=hR
  unfold Leaf.hit at II
  generalize l.w0*x+l.w1*y+l.w4=U at II ⊢
  generalize l.w2*x+l.w3*y+l.w5=V at II ⊢
  generalize ef:(λi j=>onB l.a l.b l.c l.d (U - i) (V - j))=f at II
  have e0:∀ i j,f i j=onB l.a l.b l.c l.d (U - i) (V - j):=λi j=>by rw[<- ef]
  have b7:((l.rows.map D.str).length:Int).toNat=l.rows.length:=by simp
  refine⟨_,rfl,⟨by lia,by simp;lia⟩,λk z=>∃ o1 o2:Option D,z=[some l.D,some (.int x),some (.int y),some (.tup [.int l.w0,.int l.w1,.int l.w2,.int l.w3,.int l.w4,.int l.w5]),some (.int U),some (.int V),o1,o2]/\bG f 0 l.rows=bG f k (l.rows.drop k),⟨_,_,rfl,rfl⟩,?_,?_⟩
  ·rintro j v z hj ⟨o1,o2,rfl,hs⟩;k_places
   obtain⟨JC,rfl⟩:=cm hj
   rw[b7] at JC
   have KP:l.rows[j]?=some l.rows[j]:=Fj JC
   have x9:l.rows.drop j=l.rows[j]::l.rows.drop (j+1):=Gg JC
   obtain⟨o_,v_⟩:=pc l.rows[j] (FD JC)
   generalize l.rows[j]=row at KP x9 o_ v_
   have Jo:=at_str KP
   have j8:=bq row
   refine⟨_,rfl,_,Jo,by lia,⟨by lia,by lia⟩,λi z=>∃ o2:Option D,z=[some l.D,some (.int x),some (.int y),some (.tup [.int l.w0,.int l.w1,.int l.w2,.int l.w3,.int l.w4,.int l.w5]),some (.int U),some (.int V),some (.int j),o2]/\scanRow (λi=>f i j) 0 (cs row)=scanRow (λi=>f i j) i ((cs row).drop i),⟨_,rfl,rfl⟩,?_,?_⟩
   ·rintro i v z hi ⟨o2,rfl,JJ⟩;k_places
    obtain⟨m6,rfl⟩:=cm hi
    have Nh:i<(cs row).length:=by lia
    have Iq:(cs row).drop i=(cs row)[i]::(cs row).drop (i+1):=Gg Nh
    have KQ:=v_ (cs row)[i] (FD Nh)
    have Ni:atI (cs row) (i:Int)=some (cs row)[i]:=bV (Fj Nh)
    generalize (cs row)[i]=c at Iq KQ Ni
    refine⟨_,rfl,_,Jo,c,⟨by lia,Ni⟩,ite2 (λq=>?_) (λq=>?_)⟩
    ·have t9:¬ c=46:=by
      intro z
      have:(⟨#[c]⟩:Str)=".":=one_sign.mpr z
      simp[this] at q
     refine⟨_,rfl,_,rfl,l.a,l.b,l.c,l.d,U - i,V - j,rfl,ok.a.lt,ok.b.lt,ok.c.lt,ok.d.lt,ok.ne,?_⟩
     refine ite2 (λq2=>?_) (λq2=>?_)
     ·have d5:f i j=true:=by rw[e0];exact q2
      have P1:49<=c/\c<=54:=by unfold aG at KQ;lia
      refine⟨_,rfl,_,rfl,_,Jo,c,⟨by lia,Ni⟩,_,⟨digit_of P1,by show 1<=640;decide⟩,_,cy (by lia) (by rw[ok.many];lia),?_⟩
      rw[hs,x9,bG,JJ,Iq,scanRow,if_pos ⟨t9,d5⟩] at II
      exact II
     ·have d5:¬ f i j=true:=by rw[e0];exact q2
      refine⟨_,rfl,?_⟩
      rw[JJ,Iq,scanRow,if_neg (λz=>d5 z.2)]
    ·have t9:c=46:=by
      rcases Classical.em (c=46) with z|z
      ·exact z
      ·exact absurd (by
        have:¬ (⟨#[c]⟩:Str)=".":=λw=>z (one_sign.mp w)
        simp[this]) q
     refine⟨_,rfl,?_⟩
     rw[JJ,Iq,scanRow,if_neg (λz=>z.1 t9)]
   ·rintro z ⟨o2,rfl,JJ⟩;k_places
    refine⟨_,_,rfl,?_⟩
    have hn:((row.length:Int).toNat)=(cs row).length:=by lia
    rw[cz,hn,Hm (ER _),scanRow] at JJ
    rw[hs,x9,bG,JJ]
  ·rintro z ⟨o1,o2,rfl,hs⟩;k_places
   rw[cz,b7,Hm (ER _),bG] at hs
   rw[hs] at II
   exact II
abbrev oC(V:Bx):Prop:=V.D 3 "_law_shows" nq AU
theorem En(T:V.T "_law_shows" nn nq)(Nj:oB V):oC V:=by
 refine Tx.okDW T sc__law_shows (λds R h=>?_) (λf cdv A outer s H E J hr=>⟨_,((ah (gw 3 PassesOwn.never rfl sc__law_shows.nd (aa 0) (ah (ai 4 sc__law_shows.nd (aq Nj hr (ac (aa 3) (ac (aa 1) (ac (aa 2) ae)))))
    (ak (bg (cw (aa 4) ad) (ak (au (aa 4))) aW))))
   (ak (au ad)))),λds R h=>?_⟩)
 ·obtain⟨_,_,_,rfl,_⟩:=h;rfl
 ·obtain⟨ls,x,y,rfl,ok,hR⟩:=h
  refine⟨λk z=>∃ o1 o2:Option D,z=[some (.lst (ls.map Leaf.D)),some (.int x),some (.int y),o1,o2]/\aT ls x y=aT (ls.drop k) x y,⟨_,_,rfl,rfl⟩,?_,?_⟩
  ·rintro k v z hk ⟨o1,o2,rfl,hs⟩;k_places
   rw[E8] at hk
   have n8:k<ls.length:=by
    rcases Gb k ls.length with q|q
    ·exact q
    ·rw[FN q] at hk;cases hk
   rw[Fj n8] at hk
   cases hk
   have ed:ls.drop k=ls[k]::ls.drop (k+1):=Gg n8
   have Ox:=ok ls[k] (FD n8)
   generalize ls[k]=l at ed Ox
   refine⟨λd=>d= .int (l.shows x y),⟨l,x,y,rfl,Ox,rfl⟩,?_⟩;rintro _ rfl;k_places
   refine ite2 (λq=>?_) (λq=>?_)
   ·have q':¬ l.shows x y=0:=by simpa using q
    rw[hs,ed,aT,if_pos q'] at hR
    exact hR
   ·have q':l.shows x y=0:=by simpa using q
    refine⟨_,_,rfl,?_⟩
    rw[hs,ed,aT,if_neg (λz=>z q')]
  ·rintro z ⟨o1,o2,rfl,hs⟩;k_places
   rw[E1,Hm (ER _),aT] at hs
   rw[hs] at hR
   exact hR
abbrev fT(V:Bx):Prop:=V.D 1 "_law_whole" nu Ar
theorem Eo(T:V.T "_law_whole" nt nu)(Jp:V.m "isinstance")(Nk:V.m "bool")(uD:V.m "int"):fT V:=by
 refine Tx.okDW T C8 (λds R h=>?_) (λf cdv A outer s H E J hr=>⟨_,((ak (au (gp (jI Jp uD (aa 0) PyProof.Rows.boot_int xR) (gm (xM (jI Jp Nk (aa 0) PyProof.Rows.boot_bool kit_bool))))))),λds R h=>?_⟩)
 ·obtain⟨i,rfl,_⟩:=h;rfl
 ·obtain⟨i,rfl,hR⟩:=h
  exact hR
abbrev fU(V:Bx):Prop:=V.D 9 "row_from" nv B1
theorem Ep(T:V.T "row_from" iI nv)(uA:V.m "range")(Ir:fS V)(uL:V.gs "SIGNS" ".123456"):fU V:=by
 refine Tx.okDW T C9 (λds R h=>?_) (λf cdv A outer s H E J hr=>⟨_,((ak (au (qN (qU rfl (compScope (by change cx _ (ag iI) ["pattern","x","y","many"] _=true;decide+kernel)) uA (aa 3) (λcl s0 H0 fp=>(af (eF uL) (aq (CalX.no Ir) hr (ac (aa 0) (ac (am (aa 1) (aa 4)) (ac (aa 2) ae))))))))))),λds R h=>?_⟩)
 ·obtain⟨_,_,_,_,_,rfl,_⟩:=h;rfl
 ·obtain⟨p,d,x,y,n,rfl,hd,ok,hn,P2,J4,hy,hR⟩:=h
  obtain⟨w,h,s,fs,rfl,_⟩:=id hd
  refine⟨⟨by lia,by lia⟩,by rw[cz];lia,λk ys=>ys=(ET k).map λ(i:Nat)=>D.str ⟨#[aY (p.show (x+(i:Int)) y)]⟩,rfl,?_,?_⟩
  ·rintro k v ys hk hl rfl
   obtain⟨s_,rfl⟩:=cm hk
   obtain⟨b0,b6⟩:=Pat.show_le ok.wf (by have:=ok.deep;lia) (x+(k:Int)) y
   unfold aC at P2 J4
   refine⟨p,.obj "Pattern" fs,x+(k:Int),y,rfl,hd,ok,λ_=>?_,λz=>z ⟨⟨by lia,by lia⟩,hy⟩⟩
   refine⟨_,⟨by decide,kB b0 b6⟩,?_⟩
   show _=Gm _ (ET (k+1))
   rw[Go,Fv];rfl
  ·rintro ys hl rfl
   rw[cz,Hj]
   have e1:((ET n).map λ(i:Nat)=>D.str ⟨#[aY (p.show (x+(i:Int)) y)]⟩)=((ET n).map λ(i:Nat)=>(⟨#[aY (p.show (x+(i:Int)) y)]⟩:Str)).map D.str:=by rw[Gr];rfl
   rw[e1]
   refine⟨_,ki _,?_,?_⟩
   ·have e2:(((ET n).map λ(i:Nat)=>(⟨#[aY (p.show (x+(i:Int)) y)]⟩:Str)).map (·.length)).sum=n*1:=by
     rw[sA (w:=1) (λl hl=>by obtain⟨i,_,rfl⟩:=Fq.mp hl;rfl),E1,Hg]
    rw[e2,show("":Str).length=0 from rfl]
    simp
    lia
   ·rw[show Txt.join "" ((ET n).map λ(i:Nat)=>(⟨#[aY (p.show (x+(i:Int)) y)]⟩:Str))=ay p x y n from(StrLaws.glued_eq_join _ _).trans (BS (λi=>aY (p.show (x+(i:Int)) y)) n)]
    exact hR
abbrev jl(V:Bx):Prop:=V.D 10 "field_rows" nw B8
theorem Er(T:V.T "field_rows" iJ nw)(uA:V.m "range")(Iu:fU V)(uP:V.a "Pattern" "shifts"):jl V:=by
 refine Tx.okDW T Da (λds R h=>?_) (λf cdv A outer s H E J hr=>⟨_,((ak (au (qU rfl (compScope (by change cx _ (ag iJ) ["pattern"] _=true;decide+kernel)) uA (af (gD uP (aa 0)) ad) (λcl s0 H0 fp=>(aq Iu hr (ac (aa 0) (ac ad (ac (aa 1) (ac (af (gD uP (aa 0)) ad) ae)))))))))),λds R h=>?_⟩)
 ·obtain⟨_,_,rfl,_⟩:=h;rfl
 ·obtain⟨p,d,rfl,hd,ok,hR⟩:=h
  obtain⟨w,h,s,fs,rfl,e1,e2,hp⟩:=id hd
  have F:=hp.toFam
  have sm:=ok.fits.small F
  have wh:w*h<=720:=by
   obtain⟨w',h',s',f',hb⟩:=ok.fits
   obtain⟨rfl,rfl,_⟩:=F.uniq f'
   exact hb
  refine⟨rfl,_,e2,_,rfl,⟨by lia,by lia⟩,by rw[cz];lia,λk ys=>ys=(ET k).map λ(y:Nat)=>D.str (ay p 0 (y:Int) w.toNat),rfl,?_,?_⟩
  ·rintro k v ys hk hl rfl
   obtain⟨s_,rfl⟩:=cm hk
   refine⟨rfl,_,e2,_,rfl,p,.obj "Pattern" fs,0,k,w.toNat,by rw[Fl (by lia)],hd,ok,by lia,⟨by lia,by lia⟩,⟨by lia,by lia⟩,⟨by lia,by lia⟩,?_⟩
   show _=Gm _ (ET (k+1))
   rw[Go,Fv];rfl
  ·rintro ys hl rfl
   rw[cz]
   exact hR w h s F wh sm.2.1 sm.2.2.2.1
abbrev C_measures(V:Bx):Prop:=V.D 1 "measures" nz Cb
theorem Es(T:V.T "measures" iK nz)(uA:V.m "range"):C_measures V:=by
 refine Tx.okDW T Db (λds R h=>?_) (λf cdv A outer s H E J hr=>⟨_,((ak (au (zZ rfl (compScope (by change cx _ (ag iK) ["number"] _=true;decide+kernel)) uA ad (am (aa 0) ad) (λcl s0 H0 fp=>(bt (av (aa 0) (aa 1)) ad)) (λcl s0 H0 fp=>(aa 1)))))),λds R h=>?_⟩)
 ·obtain⟨_,rfl,_⟩:=h;rfl
 ·obtain⟨n,rfl,n0,n1,hR⟩:=h
  refine⟨⟨by lia,by lia,by lia,by lia⟩,by simp;lia,λk ys=>∃ ns:List Int,ys=ns.map D.int/\ns.length<=k/\∀ m,m∈ns↔1<=m/\m<=k/\n % m=0,⟨[],rfl,ER _,λm=>by simp;lia⟩,?_,?_⟩
  ·rintro k v ys hk ⟨ns,rfl,hl,hm⟩;k_places
   obtain⟨s_,rfl⟩:=range2_int hk
   refine⟨by lia,?_⟩
   refine okF (λc=>?_) (λc=>?_)
   ·have c':=of_decide_eq_true c
    refine⟨ns++[1+(k:Int)],by simp,by simp;lia,λm=>?_⟩
    rw[Fk,hm,ES]
    constructor
    ·rintro(q|rfl)
     ·lia
     ·exact⟨by lia,by lia,c'⟩
    ·rintro⟨a,b,c⟩
     by_cases e:m=1+(k:Int)
     ·exact .inr e
     ·exact .inl ⟨a,by lia,c⟩
   ·have c':=of_decide_eq_false c
    refine⟨ns,rfl,by lia,λm=>?_⟩
    rw[hm]
    constructor
    ·rintro⟨a,b,c⟩;exact⟨a,by lia,c⟩
    ·rintro⟨a,b,c⟩
     refine⟨a,?_,c⟩
     by_cases e:m=1+(k:Int)
     ·subst e;exact absurd c c'
     ·lia
  ·rintro ys ⟨ns,rfl,hl,hm⟩;k_places
   have e:((ET (n+1 - 1).toNat).map λk=>D.int (1+((k:Nat):Int))).length=n.toNat:=by simp
   rw[e] at hl hm
   exact hR ns (by lia) λm=>by rw[hm];lia
abbrev jm(V:Bx):Prop:=V.D 2 "round_row" nB B9
theorem Et(T:V.T "round_row" nA nB)(uM:dR V):jm V:=by
 refine Tx.okDW T sc_round_row (λds R h=>?_) (λf cdv A outer s H E J hr=>⟨_,((ah (ai 4 sc_round_row.nd (aq uM hr (ac (aa 0) (ac (aa 2) (ac (aa 3) ae)))))
   (ah (ai 5 sc_round_row.nd (af (aa 1) (af (aa 4) ad)))
   (ak (au (am (gK (aa 5) (gJ (af (aa 4) ad)) gI) (gK (aa 5) gI (gJ (af (aa 4) ad))))))))),λds R h=>?_⟩)
 ·obtain⟨_,_,_,_,_,_,rfl,_⟩:=h;rfl
 ·obtain⟨p,w,h,s,x,y,rfl,F,w7,h7,hR⟩:=h
  have f:=F.f
  have y0:=Fw y (show h≠0 by have:=f.h0;lia)
  have y1:=Fx y f.h0
  refine⟨λd=>d= .tup [.int (hmX w h s x y),.int (y % h)],⟨w,h,s,x,y,rfl,f.w0,f.h0,by lia,f.s0,by have:=f.sw;lia,rfl⟩,?_⟩
  rintro _ rfl;k_places
  refine⟨λd=>d= .str (ay p 0 (y % h) w.toNat),⟨_,rfl,_,?_,rfl⟩,?_⟩
  ·have e:y % h=(((y % h).toNat:Nat):Int):=by lia
   rw[e]
   exact bV (by rw[E8,FF (by lia)];simp)
  rintro _ rfl;k_places
  have l:=gZ p 0 (y % h) w.toNat
  refine⟨_,rfl,by lia,_,rfl,by lia,?_⟩
  have e:=B7 f.w0 f.h0 (λ_ _ q=>F.keeps q) x y
  refine⟨?_,?_⟩
  ·rw[<- bq,<- bq,<- E2,<- bF,e,cC];simp;lia
  ·rw[e];exact hR
abbrev jn(V:Bx):Prop:=V.D 3 "changes_nothing" nD Cc
theorem Eu(T:V.T "changes_nothing" nC nD)(uX:V.m "enumerate")(JK:jm V):jn V:=by
 refine Tx.okDW T sc_changes_nothing (λds R h=>?_) (λf cdv A outer s H E J hr=>⟨_,((ah (Ah PassesOwn.never rfl uX (aa 1) (dg_cons 4 sc_changes_nothing.nd (dg_cons 5 sc_changes_nothing.nd dD)) (ak (bg (cw (aq JK hr (ac (aa 0) (ac (aa 1) (ac (aa 2) (ac (am (aa 3) (aa 4)) ae))))) (aa 5)) (ak (au cv)) aW)))
   (ak (au cv)))),λds R h=>?_⟩)
 ·obtain⟨_,_,_,_,_,_,rfl,_⟩:=h;rfl
 ·obtain⟨p,w,h,s,x,y,rfl,ok,F,w7,h7,hR⟩:=h
  have e0:∀ k:Nat,k<h.toNat->((ET h.toNat).map λ(y:Nat)=>D.str (ay p 0 (y:Int) w.toNat))[k]?=some (.str (ay p 0 (k:Int) w.toNat)):=λk hk=>by simp[hk]
  refine⟨λk z=>∃ o1 o2,z=[some (.tup [.int w,.int h,.int s]),some (cf p w h),some (.int x),some (.int y),o1,o2]/\∀ j:Nat,j<k->ay p x (y+j) w.toNat=ay p 0 j w.toNat,⟨_,_,rfl,λj hj=>absurd hj (Hf j)⟩,?_,?_⟩
  ·rintro k v z hk ⟨o1,o2,rfl,hj⟩;k_places
   have s_:k<h.toNat:=by simpa using(Fb.mp hk).1
   rw[e0 k s_] at hk
   cases hk
   refine⟨p,w,h,s,x,y+k,rfl,F,w7,h7,ite2 (λc=>?_) (λc=>?_)⟩
   ·refine hR false ?_
    have c':¬ ay p x (y+k) w.toNat=ay p 0 k w.toNat:=λz=>by simp[z] at c
    rw[<- tR ok F]
    exact⟨(λz=>nomatch z),λz=>absurd (z k s_) c'⟩
   ·have c':ay p x (y+k) w.toNat=ay p 0 k w.toNat:=by simpa using c
    refine⟨_,_,rfl,λj N2=>?_⟩
    by_cases e:j=k
    ·subst e;exact c'
    ·exact hj j (by lia)
  ·rintro z ⟨o1,o2,rfl,hj⟩;k_places
   rw[show((ET h.toNat).map λ(y:Nat)=>D.str (ay p 0 (y:Int) w.toNat)).length=h.toNat by simp] at hj
   exact hR true ((tR ok F x y).mp hj|>λz=>⟨λ_=>z,λ_=>rfl⟩)
abbrev oE(V:Bx):Prop:=V.D 4 "least_width" nE Cd
theorem Ev(T:V.T "least_width" iL nE)(uZ:V.m "min")(JL:C_measures V)(JM:jn V):oE V:=by
 refine Tx.okDW T Dc (λds R h=>?_) (λf cdv A outer s H E J hr=>⟨_,((ak (au (rY rfl uZ (ac (rW rfl (compScope (by change cx _ (ag iL) ["family","rows"] _=true;decide+kernel)) (aq JL hr (ac (af (aa 0) ad) ae)) (λcl s0 H0 fp=>(bX (aq JM hr (ac (aa 0) (ac (aa 1) (ac (aa 2) (ac ad ae))))))) (λcl s0 H0 fp=>(aa 2))) ae))))),λds R h=>?_⟩)
 ·obtain⟨_,_,_,_,rfl,_⟩:=h;rfl
 ·obtain⟨p,w,h,s,rfl,ok,F,w7,h7,hR⟩:=h
  have w0:=F.f.w0
  refine⟨_,rfl,w,rfl,w0,by lia,λns hl hm=>⟨by simp;lia,λk ys=>∃ ms:List Int,ys=ms.map D.int/\∀ m,m∈ms↔(∃ j:Nat,j<k/\ns[j]?=some m)/\p.Keeps m 0,⟨[],rfl,λm=>by simp⟩,?_,?_⟩⟩
  ·rintro k v ys hk ⟨ms,rfl,x'⟩;k_places
   obtain⟨m,em,rfl⟩:∃ m,ns[k]?=some m/\v= .int m:=by
    rw[E8] at hk
    cases q:ns[k]? with
    |none=>rw[q] at hk;cases hk
    |some m=>rw[q] at hk;cases hk;exact⟨m,rfl,rfl⟩
   refine⟨p,w,h,s,m,0,rfl,ok,F,w7,h7,λb hb=>okF (λc=>?_) (λc=>?_)⟩
   ·refine⟨ms++[m],by simp,λm'=>?_⟩
    rw[Fk,x',ES]
    constructor
    ·rintro(⟨⟨j,h1,h2⟩,h3⟩|rfl)
     ·exact⟨⟨j,by lia,h2⟩,h3⟩
     ·exact⟨⟨k,by lia,em⟩,hb.mp c⟩
    ·rintro⟨⟨j,h1,h2⟩,h3⟩
     by_cases e:j=k
     ·subst e;rw[em] at h2;cases h2;exact .inr rfl
     ·exact .inl ⟨⟨j,by lia,h2⟩,h3⟩
   ·refine⟨ms,rfl,λm'=>?_⟩
    rw[x']
    constructor
    ·rintro⟨⟨j,h1,h2⟩,h3⟩;exact⟨⟨j,by lia,h2⟩,h3⟩
    ·rintro⟨⟨j,h1,h2⟩,h3⟩
     by_cases e:j=k
     ·subst e;rw[em] at h2;cases h2
      rw[hb.mpr h3] at c;cases c
     ·exact⟨⟨j,by lia,h2⟩,h3⟩
  ·rintro ys ⟨ms,rfl,x'⟩;k_places
   rw[E1] at x'
   have pc:∀ m,m∈ms↔(1<=m/\m<=w/\w % m=0)/\p.Keeps m 0:=λm=>by
    rw[x',<- hm,Ii]
    constructor
    ·rintro⟨⟨j,_,h2⟩,h3⟩;exact⟨⟨j,h2⟩,h3⟩
    ·rintro⟨⟨j,h2⟩,h3⟩;exact⟨⟨j,(Fb.mp h2).1,h2⟩,h3⟩
   have hw:w∈ms:=(pc w).mpr ⟨⟨by lia,by lia,Int.emod_self⟩,F.keeps (InF.one w h s)⟩
   refine⟨ms,rfl,Ij hw,λm Nl w9=>hR m ?_⟩
   obtain⟨⟨a,b,c⟩,d⟩:=(pc m).mp Nl
   exact⟨a,b,c,d,λd' h1 h2 h3 h4=>w9 d' ((pc d').mpr ⟨⟨h1,h2,h3⟩,h4⟩)⟩
abbrev oF(V:Bx):Prop:=V.D 4 "slant_at" nG Ce
theorem Ew(T:V.T "slant_at" nF nG)(uA:V.m "range")(JM:jn V):oF V:=by
 refine Tx.okDW T sc_slant_at (λds R h=>?_) (λf cdv A outer s H E J hr=>⟨_,((ah (cg 4 PassesOwn.never rfl sc_slant_at.nd uA (aa 2) (ak (bg (bX (aq JM hr (ac (aa 0) (ac (aa 1) (ac (aa 4) (ac (aa 3) ae)))))) (ak (au (aa 4))) aW)))
   (ak (au cG)))),λds R h=>?_⟩)
 ·obtain⟨_,_,_,_,_,_,rfl,_⟩:=h;rfl
 ·obtain⟨p,w,h,s,m,y,rfl,ok,F,w7,h7,m0,m7,hR,hN⟩:=h
  refine⟨⟨by lia,by lia⟩,λk z=>∃ o1,z=[some (.tup [.int w,.int h,.int s]),some (cf p w h),some (.int m),some (.int y),o1]/\∀ u,0<=u->u<(k:Int)->¬ p.Keeps u y,⟨_,rfl,λu a b=>by lia⟩,?_,?_⟩
  ·rintro k v z hk ⟨o1,rfl,hj⟩;k_places
   obtain⟨s_,rfl⟩:=cm hk
   refine⟨p,w,h,s,k,y,rfl,ok,F,w7,h7,λb hb=>ite2 (λc=>?_) (λc=>?_)⟩
   ·exact hR k (by lia) (by lia) (hb.mp c) hj
   ·refine⟨_,rfl,λu a b'=>?_⟩
    by_cases e:u=k
    ·subst e;exact λz=>c (hb.mpr z)
    ·exact hj u a (by lia)
  ·rintro z ⟨o1,rfl,hj⟩;k_places
   rw[cz] at hj
   exact hN λt a b=>hj t a (by lia)
abbrev oG(V:Bx):Prop:=V.D 11 "least_shifts" nH Cg
theorem Ey(T:V.T "least_shifts" iM nH)(uZ:V.m "min")(JN:jl V)(Nm:oE V)(JL:C_measures V)(Lm:oF V)(uP:V.a "Pattern" "shifts"):oG V:=by
 refine Tx.okDW T sc_least_shifts (λds R h=>?_) (λf cdv A outer s H E J hr=>⟨_,((ah (ai 1 sc_least_shifts.nd (gD uP (aa 0)))
   (ah (ai 2 sc_least_shifts.nd (aq JN hr (ac (aa 0) ae)))
   (ah (ai 3 sc_least_shifts.nd (aq Nm hr (ac (aa 1) (ac (aa 2) ae))))
   (ah (ai 4 sc_least_shifts.nd (rY rfl uZ (ac (rW rfl (compScope (by change cx _ (ag iM) ["pattern","family","rows","width","height"] _=true;decide+kernel)) (aq JL hr (ac (af (aa 1) ad) ae)) (λcl s0 H0 fp=>(xJ (aq Lm hr (ac (aa 1) (ac (aa 2) (ac (aa 3) (ac (aa 5) ae))))) cG)) (λcl s0 H0 fp=>(aa 5))) ae)))
   (ak (au (aJ (ac (aa 3) (ac (aa 4) (ac (aq Lm hr (ac (aa 1) (ac (aa 2) (ac (aa 3) (ac (aa 4) ae))))) ae))))))))))),λds R h=>?_⟩)
 ·obtain⟨_,_,rfl,_⟩:=h;rfl
 ·obtain⟨p,d,rfl,hd,ok,hR⟩:=h
  obtain⟨w,h,s,fs,rfl,e1,e2,hp⟩:=id hd
  have F:=hp.toFam
  have sm:=ok.fits.small F
  refine⟨λd=>d= .tup [.int w,.int h,.int s],⟨rfl,_,e2,rfl⟩,?_⟩
  rintro _ rfl;k_places
  refine⟨λd=>d=cf p w h/\w*h<=720,⟨p,_,rfl,hd,ok,λw' h' s' F' hb _ _=>?_⟩,?_⟩
  ·obtain⟨rfl,rfl,rfl⟩:=F.uniq F'
   exact⟨rfl,hb⟩
  rintro _ ⟨rfl,hb⟩;k_places
  obtain⟨w',h',s',L,d1,d2,PC,Qw,Nn⟩:=Pat.least_ex F
  have w0:=L.f.w0
  have h0:=L.f.h0
  refine⟨λd=>d= .int w',⟨p,w,h,s,rfl,ok,F,sm.2.1,sm.2.2.2.1,λm lw=>by rw[lw.eq F L]⟩,?_⟩
  rintro _ rfl;k_places
  refine⟨λd=>d= .int h',⟨_,rfl,h,rfl,sm.2.2.1,by lia,λns hl hm=>⟨by simp;lia,λk ys=>∃ ms:List Int,ys=ms.map D.int/\∀ m,m∈ms↔(∃ j:Nat,j<k/\ns[j]?=some m)/\∃ t,p.Keeps t m,⟨[],rfl,λm=>by simp⟩,?_,?_⟩⟩,?_⟩
  ·rintro k v ys hk ⟨ms,rfl,x'⟩;k_places
   obtain⟨m,em,rfl⟩:∃ m,ns[k]?=some m/\v= .int m:=by
    rw[E8] at hk
    cases q:ns[k]? with
    |none=>rw[q] at hk;cases hk
    |some m=>rw[q] at hk;cases hk;exact⟨m,rfl,rfl⟩
   have P4:(∃ t,p.Keeps t m)->∃ zs:List Int,ms.map D.int++[D.int m]=zs.map D.int/\∀ m,m∈zs↔(∃ j:Nat,j<k+1/\ns[j]?=some m)/\∃ t,p.Keeps t m:=λc=>by
    refine⟨ms++[m],by simp,λm'=>?_⟩
    rw[Fk,x',ES]
    constructor
    ·rintro(⟨⟨j,h1,h2⟩,h3⟩|rfl)
     ·exact⟨⟨j,by lia,h2⟩,h3⟩
     ·exact⟨⟨k,by lia,em⟩,c⟩
    ·rintro⟨⟨j,h1,h2⟩,h3⟩
     by_cases e:j=k
     ·subst e;rw[em] at h2;cases h2;exact .inr rfl
     ·exact .inl ⟨⟨j,by lia,h2⟩,h3⟩
   refine⟨p,w,h,s,w',m,rfl,ok,F,sm.2.1,sm.2.2.2.1,by lia,by lia,λt _ _ kt _=>P4 ⟨t,kt⟩,λno=>?_⟩
   show ∃ zs:List Int,ms.map D.int=zs.map D.int/\∀ m,m∈zs↔(∃ j:Nat,j<k+1/\ns[j]?=some m)/\∃ t,p.Keeps t m
   refine⟨ms,rfl,λm'=>?_⟩
   rw[x']
   constructor
   ·rintro⟨⟨j,h1,h2⟩,h3⟩;exact⟨⟨j,by lia,h2⟩,h3⟩
   ·rintro⟨⟨j,h1,h2⟩,h3⟩
    by_cases e:j=k
    ·subst e;rw[em] at h2;cases h2
     obtain⟨t,kt⟩:=h3
     exact absurd (L.row kt) (no _ (Fw _ (by lia)) (Fx _ w0))
    ·exact⟨⟨j,by lia,h2⟩,h3⟩
  ·rintro ys ⟨ms,rfl,x'⟩;k_places
   rw[E1] at x'
   have pc:∀ m,m∈ms↔(1<=m/\m<=h/\h % m=0)/\∃ t,p.Keeps t m:=λm=>by
    rw[x',<- hm,Ii]
    constructor
    ·rintro⟨⟨j,_,h2⟩,h3⟩;exact⟨⟨j,h2⟩,h3⟩
    ·rintro⟨⟨j,h2⟩,h3⟩;exact⟨⟨j,(Fb.mp h2).1,h2⟩,h3⟩
   have hh:h'∈ms:=(pc h').mpr ⟨⟨by lia,Nn,Int.emod_eq_zero_of_dvd d2⟩,s',(L.lat _ _).mp (InF.two _ _ _)⟩
   refine⟨ms,rfl,Ij hh,λm Nl w9=>?_⟩
   obtain⟨⟨a,b,c⟩,t,kt⟩:=(pc m).mp Nl
   have h1:=(L.down kt (by lia)).1
   have h2:=w9 h' hh
   show D.int m=D.int h'
   rw[show m=h' by lia]
  rintro _ rfl;k_places
  refine⟨p,w,h,s,w',h',rfl,ok,F,sm.2.1,sm.2.2.2.1,by lia,by lia,λt a b kt _=>⟨by show(3:Nat)<=1000;decide,?_⟩,λno=>absurd ((L.lat _ _).mp (InF.two _ _ _)) (no s' L.f.s0 L.f.sw)⟩
  rw[L.slant a b kt]
  exact hR w' h' s' L (by lia) (by lia) (by lia)
abbrev oH(V:Bx):Prop:=V.D 12 "least_form" nI Ch
theorem Ez(T:V.T "least_form" iN nI)(uA:V.m "range")(No:V.m "tuple")(Np:oG V)(Iu:fU V):oH V:=by
 refine Tx.okDW T sc_least_form (λds R h=>?_) (λf cdv A outer s H E J hr=>⟨_,((ah (ai 1 sc_least_form.nd (aq Np hr (ac (aa 0) ae)))
   (ah (yt 2 rfl (compScope (by change cx _ (ag iN) ["pattern","family","rows"] _=true;decide+kernel)) sc_least_form.nd uA (af (aa 1) ad) (λcl s0 H0 fp=>(aq Iu hr (ac (aa 0) (ac ad (ac (aa 3) (ac (af (aa 1) ad) ae)))))))
   (ak (au (aJ (ac (af (aa 1) ad) (ac (af (aa 1) ad) (ac (af (aa 1) ad) (ac (Af No (ac (aa 2) ae)) ae)))))))))),λds R h=>?_⟩)
 ·obtain⟨_,_,rfl,_⟩:=h;rfl
 ·obtain⟨p,d,rfl,hd,ok,hR⟩:=h
  obtain⟨w0,h0,s0,fs,rfl,e1,e2,hp⟩:=id hd
  refine⟨λd=>∃ w h s,d= .tup [.int w,.int h,.int s]/\p.Least w h s/\w*h<=720/\w<=720/\h<=720,⟨p,_,rfl,hd,ok,λw h s L a b c=>⟨w,h,s,rfl,L,a,b,c⟩⟩,?_⟩
  rintro _ ⟨w,h,s,rfl,L,hb,w7,h7⟩;k_places
  have w0:=L.f.w0
  have h0:=L.f.h0
  refine⟨λd=>d=cf p w h,⟨_,rfl,⟨by lia,by lia⟩,by rw[cz];lia,λk ys=>ys=(ET k).map λ(y:Nat)=>D.str (ay p 0 (y:Int) w.toNat),rfl,?_,?_⟩,?_⟩
  ·rintro k v ys hk hl rfl
   obtain⟨s_,rfl⟩:=cm hk
   refine⟨_,rfl,p,.obj "Pattern" fs,0,k,w.toNat,by rw[Fl (by lia)],hd,ok,by lia,⟨by lia,by lia⟩,⟨by lia,by lia⟩,⟨by lia,by lia⟩,?_⟩
   show _=Gm _ (ET (k+1))
   rw[Go,Fv];rfl
  ·rintro ys hl rfl
   rw[cz];rfl
  rintro _ rfl;k_places
  exact⟨_,rfl,_,rfl,_,rfl,by show(4:Nat)<=1000;decide,hR w h s L hb w7 h7⟩
abbrev oI(V:Bx):Prop:=V.D 1 "_law_coordinate" nK AV
theorem EA(T:V.T "_law_coordinate" nJ nK):oI V:=by
 refine Tx.okDW T Dd (λds R h=>?_) (λf cdv A outer s H E J hr=>⟨_,((ah (bg (dz (av (aa 0) ad) ad) (ak (au (bf (av (aV (aa 0) ad) ad) ad))) aW)
   (ah (bg (bt (av (aa 0) ad) ad) (ak (au (bf (av (ar (aV (aa 0) ad) ad) (am (ar ad (dZ ad ad)) ad)) (dZ ad ad)))) aW)
   (ak (au (af (br (ac (bW (dZ ad ad)) (ac (bf ad (dZ ad ad)) (ac (bf (dZ ad ad) ad) (ac (dZ ad ad) ae))))) (av (aV (aa 0) ad) ad))))))),λds R h=>?_⟩)
 ·obtain⟨_,rfl,_⟩:=h;rfl
 ·obtain⟨v,rfl,hR⟩:=h
  have Oy:((10:Int) ^ Gq 12)=1000000000000:=by decide
  refine⟨by decide,ite2 (λ_=>?_) (λ_=>?_)⟩
  ·exact⟨⟨by decide,by decide⟩,by decide,hR _ (by lia) (by lia)⟩
  refine⟨by decide,ite2 (λ_=>?_) (λ_=>?_)⟩
  ·refine⟨⟨by decide,by decide⟩,.inr ⟨by decide,by decide⟩,⟨by decide,by decide,by decide⟩,.inl ⟨by decide,by decide⟩,by decide,⟨by decide,by decide,by decide⟩,hR _ ?_ ?_⟩
   ·rw[Oy];have:=bR (a:=v / 4*3360676521) (show(0:Int)<2*1000000000000+1 by decide);lia
   ·rw[Oy];have:=bS (a:=v / 4*3360676521) (show(0:Int)<2*1000000000000+1 by decide);lia
  obtain⟨c,ec,h1,h2⟩:=AW (v / 4)
  exact⟨⟨by decide,by decide,by decide⟩,⟨by decide,by decide,by decide⟩,⟨by decide,by decide,by decide⟩,⟨by decide,by decide,by decide⟩,by simp,⟨by decide,by decide⟩,by decide,_,ec,hR c h1 h2⟩
def EB:SpD:=λds R=>∃ (p:Pat) (d:D) (w h s x y:Int),ds=[d,hJ p w h s,.int x,.int y,.int (p.show x y)]/\bv p d/\p.Ok/\p.Least w h s/\w<=720/\h<=720/\aC x/\aC y/\R (.bl true)
abbrev oJ(V:Bx):Prop:=V.D 10 "_law_one_word" nM EB
theorem EC(T:V.T "_law_one_word" nL nM)(Jp:V.m "isinstance")(uK:V.m "str")(Ir:fS V)(uY:fT V)(Iu:fU V)(uM:dR V):oJ V:=by
 refine Tx.okDW T sc__law_one_word (λds R h=>?_) (λf cdv A outer s H E J hr=>⟨_,((ah (ai 5 sc__law_one_word.nd (aq (CalX.no Ir) hr (ac (aa 0) (ac (aa 2) (ac (aa 3) ae)))))
   (ah (bg (dA (fA (dB (bX (aq uY hr (ac (aa 5) ae)))) (fz (cw (aa 5) (aa 4))))) (ak (au cv)) aW)
   (ah (ai 6 sc__law_one_word.nd (aq Iu hr (ac (aa 0) (ac (aa 2) (ac (aa 3) (ac ad ae))))))
   (ah (bg (dA (fA (dB (bX (jI Jp uK (aa 6) PyProof.Rows.boot_str kit_str))) (fz (cw (aa 6) (af ax (aa 4)))))) (ak (au cv)) aW)
   (ah (ai 7 sc__law_one_word.nd (aq uM hr (ac (gK (aa 1) gI (gJ ad)) (ac (aa 2) (ac (aa 3) ae)))))
   (ak (au (cH (af (af (af (aa 1) ad) (af (aa 7) ad)) (af (aa 7) ad)) (af ax (aa 4))))))))))),λds R h=>?_⟩)
 ·obtain⟨_,_,_,_,_,_,_,rfl,_⟩:=h;rfl
 ·obtain⟨p,d,w,h,s,x,y,rfl,hd,ok,L,w7,h7,nx,ny,hR⟩:=h
  obtain⟨wd,f9,sd,fs,rfl,q1,q2,KR⟩:=hd
  have hd:bv p (.obj "Pattern" fs):=⟨wd,f9,sd,fs,rfl,q1,q2,KR⟩
  have w0:=L.f.w0
  have h0:=L.f.h0
  have s0:=L.f.s0
  have sw:=L.f.sw
  obtain⟨b0,b6⟩:=Pat.show_le ok.wf (by have:=ok.deep;omega) x y
  refine⟨λd=>d= .int (p.show x y),tM (x:=x) (y:=y) (R:=λd=>d=_) hd ok nx ny rfl,?_⟩
  rintro _ rfl;k_places
  refine⟨_,rfl,ite2 (λc=>absurd c (by simp)) λ_=>ite2 (λc=>absurd c (by simp)) λ_=>?_⟩
  refine⟨λd=>d= .str ⟨#[aY (p.show x y)]⟩,⟨p,_,x,y,1,rfl,hd,ok,by decide,nx,by rw[show x+((1:Nat):Int) - 1=x by omega];exact nx,ny,by simp[ay]⟩,?_⟩
  rintro _ rfl;k_places
  refine⟨_,⟨by decide,kB b0 b6⟩,ite2 (λc=>absurd c (by simp)) λ_=>?_⟩
  refine⟨λd=>d= .tup [.int (hmX w h s x y),.int (y % h)],⟨by show¬ (0=0/\3=4);decide,w,h,s,x,y,rfl,w0,h0,by omega,s0,by omega,rfl⟩,?_⟩
  rintro _ rfl;k_places
  have rl:=gZ p 0 (y % h) w.toNat
  have a1:=CC (p:=p) (w:=w) (i:=hmX w h s x y) (j:=y % h) (bR w0) (bS w0)
  rw[Pat.show_home w0 h0 (λ_ _ q=>(L.lat _ _).mp q) x y] at a1
  refine⟨_,rfl,_,rfl,_,CB (bR h0) (bS h0),_,rfl,_,⟨by omega,a1⟩,_,⟨by decide,kB b0 b6⟩,?_⟩
  show R (.bl (decide (_=_)))
  rw[decide_eq_true rfl]
  exact hR
abbrev oK(V:Bx):Prop:=V.D 1 "count_sign" nO Cp
theorem EE(T:V.T "count_sign" nN nO)(uC:V.m "len"):oK V:=by
 refine Tx.okDW T De (λds R h=>?_) (λf cdv A outer s H E J hr=>⟨_,((ak (au (am (ar (aV (aa 2) (cQ uC (ac (aa 0) ae))) (rZ (aa 0) (ac (aa 1) ae))) (rZ (gK (aa 0) gI (gJ (av (aa 2) (cQ uC (ac (aa 0) ae))))) (ac (aa 1) ae)))))),λds R h=>?_⟩)
 ·obtain⟨_,_,_,_,_,_,rfl,_⟩:=h;rfl
 ·obtain⟨p,x,y,v,m,w,rfl,ok,v0,v6,w0,w7,m0,m1,kw,hR⟩:=h
  have l:=gZ p x y w
  have q0:0<=m / (w:Int):=Hk m0 (by lia)
  have q1:m / (w:Int)<=m:=Hl _ m0
  have r0:=Fw m (show(w:Int)≠0 by lia)
  have r1:=Fx m (show 0<(w:Int) by lia)
  have er:m % (w:Int)=(((m % (w:Int)).toNat:Nat):Int):=by lia
  have e2:Txt.slice (ay p x y w) none (some (m % (w:Int)))=ay p x y (m % (w:Int)).toNat:=by
   rw[er,Co p x y (by lia)];rfl
  refine⟨by lia,⟨by rw[l];lia,by rw[l];lia⟩,.inl ⟨by rw[l];lia,by rw[l];lia⟩,by lia,by rw[l];lia,by lia,?_⟩
  show R (.int (m / ((ay p x y w).length:Int)*occC (ay p x y w) (aY v)+occC (Txt.slice (ay p x y w) none (some (m % ((ay p x y w).length:Int)))) (aY v)))
  rw[l,e2,tV ok x y v0 v6,tV ok x y v0 v6]
  have Jv:∀ k:Nat,(λk:Nat=>p.show (x+k) y) (k+w)=(λk:Nat=>p.show (x+k) y) k:=λk=>by
   have:=kw (x+k) y
   rw[FQ] at this
   show p.show (x+((k+w:Nat):Int)) y=p.show (x+(k:Int)) y
   rw[<- this,Gh,GO]
  have:=Cl (f:=λk:Nat=>p.show (x+k) y) w0 Jv v m.toNat
  have d1:m / (w:Int)=((m.toNat / w:Nat):Int):=by rw[Int.natCast_ediv,Fl m0]
  have d2:(m % (w:Int)).toNat=m.toNat % w:=by
   have:m % (w:Int)=((m.toNat % w:Nat):Int):=by rw[H8,Fl m0]
   lia
  rw[d1,d2,this]
  exact hR
abbrev oM(V:Bx):Prop:=V.X 11 "count_all" nP Cz
theorem EF(T:V.T "count_all" iO nP)(uV:V.m "max")(uA:V.m "range")(uZ:V.m "min")(uX:V.m "enumerate")(Jn:jk V)(JN:jl V)(JK:jm V)(Nq:oK V)(uL:V.gs "SIGNS" ".123456")(uP:V.a "Pattern" "shifts"):oM V:=by
  refine Tx.okXW T sc_count_all (λds R RX h=>?_) (λf cdv A outer s H E J hr hx=>⟨_,((ah (qH (jP Jn hx hr (ac (aa 1) (ac (aa 2) ae))))
      (ah (qH (jP Jn hx hr (ac (aa 3) (ac (aa 4) ae))))
      (ah (ai 5 sc_count_all.nd (gD uP (aa 0)))
      (ah (ai 6 sc_count_all.nd (aq JN hr (ac (aa 0) ae)))
      (ah (ai 7 sc_count_all.nd (gy rfl uV (ac (am (bf (aa 3) (aa 1)) ad) (ac ad ae))))
      (ah (ai 8 sc_count_all.nd (ar (af (aa 5) ad) (af (aa 5) ad)))
      (ah (Ab 9 rfl (compScope (by change cx _ (ag iO) ["pattern","left","top","right","bottom","family","rows","many","again","counts","y","times","row","hue","sign"] _=true;decide+kernel)) sc_count_all.nd (eF uL) (λcl s0 H0 fp=>ad))
      (ah (yx 10 PassesOwn.leaving rfl sc_count_all.nd uA (aa 2) (yd rfl uZ (ac (am (aa 4) ad) (ac (am (aa 2) (aa 8)) ae))) (ah (ai 11 sc_count_all.nd (am (aV (bf (aa 4) (aa 10)) (aa 8)) ad))
        (ah (ai 12 sc_count_all.nd (aq JK hr (ac (aa 5) (ac (aa 6) (ac (aa 1) (ac (aa 10) ae))))))
        (ak (Ai PassesOwn.leaving rfl uX (eF uL) (dg_cons 13 sc_count_all.nd (dg_cons 14 sc_count_all.nd dD)) (ak (yy 9 (am (yi 9 (aa 13)) (ar (aa 11) (aq Nq hr (ac (aa 12) (ac (aa 14) (ac (aa 7) ae)))))) (aa 13))))))))
      (fB 9 (ak (au (aa 9))))))))))))),λds R RX b8 h=>?_⟩)
  · obtain⟨_,_,_,_,_,_,rfl,_⟩:=h;rfl
  · obtain⟨p,d,left,top,right,a9,rfl,hd,ok,hR,hX⟩:=h
    obtain⟨w,h,s,fs,rfl,e1,e2,hp⟩:=id hd
    have F:=hp.toFam
    have sm:=ok.fits.small F
    refine⟨left,top,rfl,λn1=>?_,λn1=>by rw[b8];exact hX λz=>n1 ⟨z.1,z.2.1⟩⟩
    refine⟨right,a9,rfl,λn2=>?_,λn2=>by rw[b8];exact hX λz=>n2 ⟨z.2.2.1,z.2.2.2⟩⟩
    have hR:=hR ⟨n1.1,n1.2,n2.1,n2.2⟩
    unfold aC at n1 n2
    refine⟨λd=>d= .tup [.int w,.int h,.int s],⟨rfl,_,e2,rfl⟩,?_⟩
    rintro _ rfl;k_places
    refine⟨λd=>d=cf p w h/\w*h<=720,⟨p,_,rfl,hd,ok,λw' h' s' F' hb _ _=>by obtain⟨rfl,rfl,rfl⟩:=F.uniq F';exact⟨rfl,hb⟩⟩,?_⟩
    rintro _ ⟨rfl,hb⟩;k_places
    refine⟨λd=>d= .int ((right - left+1).toNat:Nat),congrArg D.int (Cy _),?_⟩
    rintro _ rfl;k_places
    have P5:0<w*h:=Fc F.f.w0 F.f.h0
    refine⟨λd=>d= .int (w*h),⟨_,rfl,_,rfl,.inl ⟨by lia,by lia⟩,rfl⟩,?_⟩
    rintro _ rfl;k_places
    generalize hm:(right - left+1).toNat=m at*
    generalize hn:(a9 - top+1).toNat=n at*
    generalize hN:(w*h).toNat=N at*
    refine⟨by decide+kernel,by decide+kernel,λk ys=>ys=FB k (D.int 0),rfl,?_,?_⟩
    · rintro k v ys hk hl rfl
      show _=FB (k+1) _
      rw[List.replicate_succ']
    rintro ys hl rfl
    have wN:w*h=(N:Int):=by lia
    have Ik:=Ct (top:=top) hn wN
    have Qx:=tW n1.1 n2.1 hm
    have Qy:=tW n1.2 n2.2 hn
    refine⟨Cu ⟨n1.2.1,n1.2.2⟩ ⟨n2.2.1,n2.2.2⟩ P5 hb,λk z=>∃ Nr Jg Jh t_ u7,z=[some (.obj "Pattern" fs),some (.int left),some (.int top),some (.int right),some (.int a9),some (.tup [.int w,.int h,.int s]),some (cf p w h),some (.int m),some (.int (w*h)),some (.own ((ET 7).map λ(v:Nat)=>D.int (bU p left top m n N k v))),Nr,Jg,Jh,t_,u7],⟨none,none,none,none,none,?_⟩,?_,?_⟩
    · have e7:(bP (".123456":Str)).length=7:=by decide+kernel
      rw[e7];rfl
    · rintro k v z hk ⟨Nr,Jg,Jh,t_,u7,rfl⟩;k_places
      obtain⟨s_,rfl⟩:=range2_int hk
      rw[Ik] at s_
      refine⟨λd=>d= .int (((n:Int) - 1 - k) / N+1),⟨⟨by lia,by lia⟩,?_⟩,?_⟩
      · rw[wN];congr 3;exact Cw hn s_
      rintro _ rfl;k_places
      refine⟨λd=>d= .str (ay p left (top+k) w.toNat),⟨p,w,h,s,left,top+k,rfl,F,sm.2.1,sm.2.2.2.1,rfl⟩,?_⟩
      rintro _ rfl;k_places
      refine⟨by decide+kernel,λi z=>∃ t_ u7,z=[some (.obj "Pattern" fs),some (.int left),some (.int top),some (.int right),some (.int a9),some (.tup [.int w,.int h,.int s]),some (cf p w h),some (.int m),some (.int (w*h)),some (.own ((ET 7).map λ(v:Nat)=>D.int (if v<i then bU p left top m n N (k+1) v else bU p left top m n N k v))),some (.int (top+k)),some (.int (((n:Int) - 1 - k) / N+1)),some (.str (ay p left (top+k) w.toNat)),t_,u7],⟨_,_,rfl⟩,?_,?_⟩
      · rintro i v z hi ⟨t_,u7,rfl⟩;k_places
        rw[Cs] at hi
        have i7:i<7:=by simpa using(Fb.mp hi).1
        have ev:v= .str ⟨#[aY (i:Int)]⟩:=by
          rw[E8,FF i7] at hi
          exact(Option.some.inj hi).symm
        subst ev
        have ci:=tT (λk'=>p.show (left+k') (top+k)) i m
        have tq:0<=((n:Int) - 1 - k) / N/\((n:Int) - 1 - k) / N<=(n:Int) - 1 - k:=⟨Hk (by lia) (by lia),Hl _ (by lia)⟩
        refine⟨_,bV (by rw[E8,FF i7];rfl),p,left,top+k,i,m,w.toNat,rfl,ok,by lia,by lia,by lia,by lia,by lia,by lia,by rw[Fl (by lia)];exact F.across,?_⟩
        refine⟨.inl ⟨by lia,by lia⟩,i,?_,?_⟩
        · unfold ixN;rw[if_pos (by lia),if_pos (by simp;lia)];simp
        refine⟨some (.int i),some (.str ⟨#[aY (i:Int)]⟩),?_⟩
        rw[Hj,if_neg (FR i)]
        have e:bU p left top m n N k i+(((n:Int) - 1 - k) / N+1)*cntN (λk'=>p.show (left+k') (top+k)) i m=bU p left top m n N (k+1) i:=rfl
        rw[e]
        have q:=Cr (n:=7) (i:=i) (λ(v:Nat)=>D.int (if v<i then bU p left top m n N (k+1) v else bU p left top m n N k v)) (λ(v:Nat)=>D.int (if v<i+1 then bU p left top m n N (k+1) v else bU p left top m n N k v)) (λv hv ne=>by
          by_cases c:v<i
          · rw[if_pos c,if_pos (by lia)]
          · rw[if_neg c,if_neg (by lia)])
        rw[if_pos (show i<i+1 by lia)] at q
        rw[q]
        rfl
      · rintro z ⟨t_,u7,rfl⟩;k_places
        refine⟨some (.int (top+k)),some (.int (((n:Int) - 1 - k) / N+1)),some (.str (ay p left (top+k) w.toNat)),t_,u7,?_⟩
        have:∀ v∈ET 7,D.int (if v<(bP (".123456":Str)).length then bU p left top m n N (k+1) v else bU p left top m n N k v)=D.int (bU p left top m n N (k+1) v):=λv hv=>by
          rw[if_pos (by  have e7:(bP (".123456":Str)).length=7:=by decide+kernel
                         rw[e7];simpa using hv)]
        rw[GE this]
    · rintro z ⟨Nr,Jg,Jh,t_,u7,rfl⟩;k_places
      have e:((ET ((if top+w*h<a9+1 then top+w*h else a9+1) - top).toNat).map λ(k:Nat)=>D.int (top+(k:Int))).length=min n N:=by simp[Ik]
      rw[e]
      have fold:∀ v:Nat,bU p left top m n N (min n N) v=dh p v left top m n:=λv=>Cq (by lia) (by rw[<- wN];exact F.down) v left top m n
      simp only[fold]
      have e2:((ET 7).map λ(v:Nat)=>D.int (dh p v left top m n))=(dQ p left top m n).map D.int:=by unfold dQ;rw[Gr];rfl
      rw[e2]
      exact hR
abbrev oN(V:Bx):Prop:=V.X 12 "count_hue" nR tX
theorem EG(T:V.T "count_hue" nQ nR)(uC:V.m "len")(Nt:oM V):oN V:=by
 refine Tx.okXW T sc_count_hue (λds R RX h=>?_) (λf cdv A outer s H E J hr hx=>⟨_,((ah (ai 6 sc_count_hue.nd (jP Nt hx hr (ac (aa 0) (ac (aa 2) (ac (aa 3) (ac (aa 4) (ac (aa 5) ae)))))))
   (ak (au (xN (Ak pC jw qu jG ad (aa 1) (cQ uC (ac (aa 6) ae))) (af (aa 6) (aa 1)) ad))))),λds R RX b8 h=>?_⟩)
 ·obtain⟨_,_,_,_,_,_,_,rfl,_⟩:=h;rfl
 ·obtain⟨p,d,hue,left,top,right,a9,rfl,hd,ok,h0,h6,hR,hX⟩:=h
  obtain⟨w,h,s,fs,rfl,e1,e2,hp⟩:=id hd
  refine⟨λx=>(aC left/\aC top/\aC right/\aC a9)/\x= .lst ((dQ p left top (right - left+1).toNat (a9 - top+1).toNat).map D.int),⟨p,_,left,top,right,a9,rfl,hd,ok,λn=>⟨n,rfl⟩,λn=>by rw[b8];exact hX n⟩,?_⟩
  rintro _ ⟨n,rfl⟩;k_places
  have l7:((dQ p left top (right - left+1).toNat (a9 - top+1).toNat).map D.int).length=7:=by simp[dQ]
  refine⟨_,rfl,λ_=>ite2 (λ_=>?_) (λc=>absurd (decide_eq_true (by rw[l7];lia)) c),λc=>absurd h0 (of_decide_eq_false c)⟩
  have e:hue=((hue.toNat:Nat):Int):=by lia
  refine⟨.int (dh p hue left top (right - left+1).toNat (a9 - top+1).toNat),?_,hR n⟩
  rw[e]
  exact bV (by unfold dQ;rw[Gr,E8,FF (by lia)];rfl)
def EH:SpD:=λds R=>∃ (p:Pat) (d:D) (x y n:Int),ds=[d,.int x,.int y,.int (p.show x y),.int n]/\bv p d/\p.Ok/\aC x/\aC y/\R (.bl true)
theorem EI(p:Pat)(v x y:Int):dh p v x y (x - x+1).toNat (y - y+1).toNat=if p.show x y=v then 1 else 0:=by
 rw[GK,GK]
 show 0+(0+if p.show (x+0) (y+0)=v then 1 else 0)=_
 rw[GQ,GQ,FQ,FQ]
abbrev oO(V:Bx):Prop:=V.D 13 "_law_counted_once" nU EH
theorem EJ(T:V.T "_law_counted_once" nS nU)(uD:V.m "int")(Nu:oN V)(uY:fT V):oO V:=by
 refine Tx.okDW T sc__law_counted_once (λds R h=>?_) (λf cdv A outer s H E J hr=>⟨_,((ah (gw 5 PassesOwn.never rfl sc__law_counted_once.nd (br (ac (aa 3) (ac (av (am (am (aa 3) ad) (av (aa 4) ad)) ad) ae))) (ah (ai 6 sc__law_counted_once.nd (aq (CalX.no Nu) hr (ac (aa 0) (ac (aa 5) (ac (aa 1) (ac (aa 2) (ac (aa 1) (ac (aa 2) ae))))))))
    (ak (bg (dA (fA (dB (bX (aq uY hr (ac (aa 6) ae)))) (fz (cw (aa 6) (fE uD (ac (cH (aa 5) (aa 3)) ae)))))) (ak (au cv)) aW))))
   (ak (au cv)))),λds R h=>?_⟩)
 ·obtain⟨_,_,_,_,_,rfl,_⟩:=h;rfl
 ·obtain⟨p,d,x,y,n,rfl,hd,ok,nx,ny,hR⟩:=h
  obtain⟨wd,f9,sd,fs,rfl,q1,q2,KR⟩:=hd
  have hd:bv p (.obj "Pattern" fs):=⟨wd,f9,sd,fs,rfl,q1,q2,KR⟩
  obtain⟨b0,b6⟩:=Pat.show_le ok.wf (by have:=ok.deep;omega) x y
  refine⟨by decide,by decide,by show(2:Nat)<=1000;decide,λk z=>∃ o5 o6,z=[some (.obj "Pattern" fs),some (.int x),some (.int y),some (.int (p.show x y)),some (.int n),o5,o6],⟨_,_,rfl⟩,?_,?_⟩
  ·rintro k v z hk ⟨o5,o6,rfl⟩;k_places
   obtain⟨u,rfl,u0,u6⟩:∃ u:Int,v= .int u/\0<=u/\u<=6:=by
    have s_:k<2:=(Fb.mp hk).1
    rcases(by omega:k=0\/k=1) with rfl|rfl<;>cases hk
    ·exact⟨_,rfl,b0,b6⟩
    ·exact⟨_,rfl,by omega,by omega⟩
   refine⟨λd=>d= .int (if p.show x y=u then 1 else 0),CA (R:=λd=>d= .int (if p.show x y=u then 1 else 0)) hd ok u0 u6 ⟨nx,ny,nx,ny⟩ (by rw[EI]),?_⟩
   rintro _ rfl;k_places
   refine⟨_,rfl,ite2 (λc=>absurd c (by simp)) λ_=>ite2 (λc=>absurd c ?_) λ_=>⟨_,_,rfl⟩⟩
   by_cases e:p.show x y=u
   ·simp[e]
   ·simp[e,show¬ u=p.show x y from λz=>e z.symm]
  ·rintro z ⟨o5,o6,rfl⟩;k_places
   exact hR
theorem EK{fa:Addr}{fd:FuncData}(F:Fun V.K "law" "law" iP fa fd)(uA:V.m "range")(Nv:oj V)(JB:iS V)(Nw:oA V)(Ir:fS V)(Ln:oC V)(uY:fT V)(Nx:oH V)(Lo:oI V)(uW:iU V)(Ny:oJ V)(Nz:oO V):FnOk V.P V.w V.K V.mg V.base (Exc.CX1 V.P V.w) 20 fa fd nV (lSp V.K eB):=by
  refine Fun.okDW F sc_law (λds R h=>?_) (λcdv A outer s H E J hr=>⟨_,((ah (ai 1 sc_law.nd (aq Nv hr (ac (aa 0) (ac ad ae))))
      (ah (ai 2 sc_law.nd (aq JB hr (ac (af (aa 1) ad) ae)))
      (ah (ai 3 sc_law.nd (aq (CalX.no Nw) hr (ac (af (aa 1) ad) ae)))
      (ah (cg 4 PassesOwn.never rfl sc_law.nd uA (af (aa 2) ad) (ak (cg 5 PassesOwn.never rfl sc_law.nd uA (af (aa 2) ad) (ah (ai 6 sc_law.nd (aq (CalX.no Ir) hr (ac (aa 3) (ac (aa 5) (ac (aa 4) ae)))))
         (ak (bg (dA (fA (dB (bX (aq uY hr (ac (aa 6) ae)))) (fz (cw (aa 6) (aq Ln hr (ac (af (aa 1) ad) (ac (aa 5) (ac (aa 4) ae)))))))) (ak (au cv)) aW))))))
      (ah (ai 7 sc_law.nd (aq Nx hr (ac (aa 3) ae)))
      (ah (cg 8 PassesOwn.never rfl sc_law.nd uA ad (ah (ai 5 sc_law.nd (aq Lo hr (ac (aq uW hr (ac (aa 0) (ac (ar ad (aa 8)) ae))) ae)))
        (ah (ai 4 sc_law.nd (aq Lo hr (ac (aq uW hr (ac (aa 0) (ac (am (ar ad (aa 8)) ad) ae))) ae)))
        (ah (ai 9 sc_law.nd (aq Ln hr (ac (af (aa 1) ad) (ac (aa 5) (ac (aa 4) ae)))))
        (ah (bg (dB (bX (aq Ny hr (ac (aa 3) (ac (aa 7) (ac (aa 5) (ac (aa 4) (ac (aa 9) ae)))))))) (ak (au cv)) aW)
        (ak (bg (dA (qG (dz (aa 8) ad) (qF (dB (bX (aq Nz hr (ac (aa 3) (ac (aa 5) (ac (aa 4) (ac (aa 9) (ac (aq uW hr (ac (aa 0) (ac (am (aa 8) ad) ae))) ae))))))))))) (ak (au cv)) aW)))))))
      (ak (au cv))))))))),λds R h=>?_⟩)
  · obtain⟨ns,rfl,_⟩:=h;rfl
  · obtain⟨ns,rfl,hl,hR⟩:=h
    refine⟨λx=>∃ p:Pat,x=p.D/\p.Ok,⟨ns,20,rfl,by decide,λp ok=>⟨p,rfl,ok⟩⟩,?_⟩
    rintro _ ⟨p,rfl,ok⟩;k_places
    have dp:=ok.deep
    have lo:=Pat.leaf_ok ok.wf (show p.depth<=40 by omega)
    have sl:=λx y=>Pat.show_leaves ok.wf (show p.depth<=40 by omega) x y
    refine⟨FamD p,⟨_,rfl,Cj ok⟩,?_⟩
    rintro _ ⟨w,h,s,rfl,F,wh,w7,h7⟩;k_places
    refine⟨λx=>bv p x,⟨_,rfl,BZ ok λd hd=>hd⟩,?_⟩
    rintro _ ⟨wd,hd,sd,fs,rfl,e1,e2,KR⟩;k_places
    have Lp:bv p (.obj "Pattern" fs):=⟨wd,hd,sd,fs,rfl,e1,e2,KR⟩
    show dSeq _ _ _ [_,_,_,_,_,_,_,_,_,_]
    refine⟨_,rfl,⟨by have:=F.f.h0;omega,by omega⟩,λk z=>∃ o4 o5 o6,z=[some (.rol (ns.map D.int)),some p.D,some (.tup [.int w,.int h,.int s]),some (.obj "Pattern" fs),o4,o5,o6,none,none,none],⟨_,_,_,rfl⟩,?_,?_⟩
    · rintro k v z hk ⟨o4,o5,o6,rfl⟩;k_places
      obtain⟨s_,rfl⟩:=cm hk
      refine⟨_,rfl,⟨by have:=F.f.w0;omega,by omega⟩,λi z=>∃ o5 o6,z=[some (.rol (ns.map D.int)),some p.D,some (.tup [.int w,.int h,.int s]),some (.obj "Pattern" fs),some (.int k),o5,o6,none,none,none],⟨_,_,rfl⟩,?_,?_⟩
      · rintro i v z hi ⟨o5,o6,rfl⟩;k_places
        obtain⟨Ik,rfl⟩:=cm hi
        refine⟨λd=>d= .int (p.show i k),tM (x:=i) (y:=k) (R:=λd=>d=_) Lp ok ⟨by omega,by omega⟩ ⟨by omega,by omega⟩ rfl,?_⟩
        rintro _ rfl;k_places
        refine⟨_,rfl,ite2 (λc=>absurd c (by simp)) λ_=>⟨_,rfl,p.leaves,i,k,rfl,lo,?_⟩⟩
        rw[sl]
        exact ite2 (λc=>absurd c (by simp)) λ_=>⟨_,_,rfl⟩
      · rintro z ⟨o5,o6,rfl⟩;k_places
        exact⟨_,_,_,rfl⟩
    rintro z ⟨o4,o5,o6,rfl⟩;k_places
    refine⟨λx=>∃ w h s:Int,x=hJ p w h s/\p.Least w h s/\w<=720/\h<=720,⟨p,_,rfl,Lp,ok,λw h s L _ a b=>⟨w,h,s,rfl,L,a,b⟩⟩,?_⟩
    rintro _ ⟨w',h',s',rfl,L,w8,h8⟩;k_places
    refine⟨⟨by decide,by decide⟩,λk z=>∃ o4 o5 o8 o9,z=[some (.rol (ns.map D.int)),some p.D,some (.tup [.int w,.int h,.int s]),some (.obj "Pattern" fs),o4,o5,o6,some (hJ p w' h' s'),o8,o9],⟨_,_,_,_,rfl⟩,?_,?_⟩
    · rintro k v z hk ⟨o4,o5,o8,o9,rfl⟩;k_places
      obtain⟨s_,rfl⟩:=cm hk
      refine⟨λx=>∃ v:Int,x= .int v/\aC v,⟨.inl ⟨by decide,by decide⟩,ns,_,rfl,by omega,_,rfl,λc h1 h2=>⟨c,rfl,h1,h2⟩⟩,?_⟩
      rintro _ ⟨x,rfl,nx⟩;k_places
      refine⟨λx=>∃ v:Int,x= .int v/\aC v,⟨.inl ⟨by decide,by decide⟩,ns,_,rfl,by omega,_,rfl,λc h1 h2=>⟨c,rfl,h1,h2⟩⟩,?_⟩
      rintro _ ⟨y,rfl,ny⟩;k_places
      refine⟨λd=>d= .int (p.show x y),⟨_,rfl,p.leaves,x,y,rfl,lo,by rw[sl]⟩,?_⟩
      rintro _ rfl;k_places
      refine⟨p,_,w',h',s',x,y,rfl,Lp,ok,L,w8,h8,nx,ny,?_⟩
      refine ite2 (λc=>absurd c (by simp)) λ_=>ite2 (λ_=>⟨ns,_,rfl,by omega,p,_,x,y,_,rfl,Lp,ok,nx,ny,⟨_,_,_,_,rfl⟩⟩) λ_=>⟨_,_,_,_,rfl⟩
    · rintro z ⟨o4,o5,o8,o9,rfl⟩;k_places
      exact hR
end
local macro_rules | `(tactic| walk_at "b1") => `(tactic| exact zY λ_ _ _ _ _ _ _ => rfl)
local macro_rules | `(tactic| walk_at "b2") => `(tactic| exact bind2 λ_ _ _ _ _ _ _ _ => rfl)
local macro_rules | `(tactic| walk_at "b3") => `(tactic| exact bind3 λ_ _ _ _ _ _ _ _ _ => rfl)
local macro_rules | `(tactic| walk_at "b4") => `(tactic| exact bind4 λ_ _ _ _ _ _ _ _ _ _ => rfl)
local macro_rules | `(tactic| walk_at "b5") => `(tactic| exact bind5 λ_ _ _ _ _ _ _ _ _ _ _ => rfl)
local macro_rules | `(tactic| walk_at "b6") => `(tactic| exact bind6 λ_ _ _ _ _ _ _ _ _ _ _ _ => rfl)
structure TopIn(K:Ex):Prop where
 uEX:FnIn K "_law_gcd" kC
 uFO:FnIn K "_law_on" kE
 uEG:FnIn K "_law_leaf_family" kG
 uEM:FnIn K "_law_in_family" kI
 uEO:FnIn K "_law_both" kK
 uFU:FnIn K "_law_family" kM
 uIB:FnIn K "_law_over" kO
 uHW:FnIn K "_law_at" kQ
 uHQ:FnIn K "_law_draws" kS
 uGF:FnIn K "_law_lines" kU
 uGG:FnIn K "_law_shift_pair" kX
 uHB:FnIn K "_law_motif_text" kZ
 uGP:FnIn K "_law_motif" lh
 uFT:FnIn K "_law_wrapped" hZ
 uIA:FnIn K "_law_pattern" lp
 uHS:FnIn K "_law_great_pattern" lr
 uEK:FnIn K "line_from" lF
 uEU:FnIn K "lines_from" lH
 uHR:FnIn K "number_from" lK
 uGH:FnIn K "shift_from" lM
 uEH:FnIn K "levelled" lP
 uEW:FnIn K "spread" lR
 uEC:FnIn K "home" lV
 uGQ:FnIn K "hues_by_home" lY
 uIM:FnIn K "motif_from" mf
 uHD:FnIn K "over_from" ia
 uGX:FnIn K "shifted_from" ib
 uFI:FnIn K "rehue_from" ic
 uIH:FnIn K "form_from" ie
 uHZ:FnIn K "measure" mJ
 uHX:FnIn K "met" mL
 uEY:FnIn K "mirrored" mN
 uGS:FnIn K "turned" mQ
 uFG:FnIn K "read" mU
 uIL:FnIn K "refuse_far" mW
 uHH:FnIn K "cell_at" mZ
 uHG:FnIn K "_law_leaf_shows" nh
 uGI:FnIn K "_law_shows" nn
 uGD:FnIn K "_law_whole" nt
 uHY:FnIn K "row_from" iI
 uGK:FnIn K "field_rows" iJ
 uFK:FnIn K "measures" iK
 uGC:FnIn K "round_row" nA
 uEF:FnIn K "changes_nothing" nC
 uFV:FnIn K "least_width" iL
 uEL:FnIn K "slant_at" nF
 uHE:FnIn K "least_shifts" iM
 uHP:FnIn K "least_form" iN
 uFZ:FnIn K "_law_coordinate" nJ
 uIN:FnIn K "_law_one_word" nL
 uHM:FnIn K "count_sign" nN
 uGT:FnIn K "count_all" iO
 uGU:FnIn K "count_hue" nQ
 uFQ:FnIn K "_law_counted_once" nS
 uHA:FnIn K "law" iP
 uFL:NnIn K "abs"
 uGW:NnIn K "max"
 uHU:NnIn K "len"
 uEV:NnIn K "range"
 uEI:NnIn K "int"
 uFX:NnIn K "str"
 uED:NnIn K "list"
 uHK:NnIn K "enumerate"
 uER:NnIn K "isinstance"
 uGY:NnIn K "bool"
 uFF:NnIn K "min"
 uEN:NnIn K "tuple"
 uBR:ClIn K "Reading"
 uBG:ClIn K "Motif"
 uCN:ClIn K "Mirror"
 uCM:ClIn K "Turn"
 uBW:ClIn K "Over"
 uBM:ClIn K "Shifted"
 uBN:ClIn K "Rehue"
 uDE:ClIn K "Pattern"
 uHI:InIn K "Motif" "Motif.__init__" ma
 uHC:InIn K "Mirror" "Mirror.__init__" mj
 uHJ:InIn K "Turn" "Turn.__init__" mn
 uHT:InIn K "Over" "Over.__init__" mq
 uIG:InIn K "Shifted" "Shifted.__init__" mx
 uGN:InIn K "Rehue" "Rehue.__init__" mz
 uGB:InIn K "Reading" "Reading.__init__" mC
 uIC:InIn K "Pattern" "Pattern.__init__" mF
 uIO:MtIn K "Reading" "may_take" "Reading.may_take" ly
 uFS:MtIn K "Reading" "take" "Reading.take" lC
 uIP:MtIn K "Motif" "family" "Motif.family" ig
 uEQ:MtIn K "Over" "family" "Over.family" ii
 uGL:MtIn K "Shifted" "family" "Shifted.family" ik
 uFP:MtIn K "Mirror" "family" "Mirror.family" im
 uGO:MtIn K "Turn" "family" "Turn.family" ip
 uFB:MtIn K "Rehue" "family" "Rehue.family" ir
 uEZ:MtIn K "Motif" "shows" "Motif.shows" iw
 uEJ:MtIn K "Over" "shows" "Over.shows" iy
 uFN:MtIn K "Shifted" "shows" "Shifted.shows" iA
 uFW:MtIn K "Mirror" "shows" "Mirror.shows" iC
 uII:MtIn K "Turn" "shows" "Turn.shows" iE
 uES:MtIn K "Rehue" "shows" "Rehue.shows" iG
 uHN:NoIn K "Reading" "text"
 uFM:NoIn K "Reading" "place"
 uHO:NoIn K "Motif" "place"
 uIQ:NoIn K "Motif" "shifts"
 uGA:NoIn K "Motif" "hues"
 uHL:NoIn K "Mirror" "form"
 uFA:NoIn K "Turn" "form"
 uFH:NoIn K "Over" "above"
 uGV:NoIn K "Over" "below"
 uFE:NoIn K "Shifted" "form"
 uHV:NoIn K "Shifted" "x"
 uGR:NoIn K "Shifted" "y"
 uFC:NoIn K "Rehue" "form"
 uIE:NoIn K "Rehue" "old"
 uEB:NoIn K "Rehue" "new"
 uGJ:NoIn K "Pattern" "text"
 uEE:NoIn K "Pattern" "shifts"
 uIJ:NoIn K "Pattern" "form"
 uFJ:CsIn K "SIGNS" ".123456"
 uIK:CiIn K "LONGEST" 8
 uET:CiIn K "DEEP" 5
 uGE:CiIn K "MOST" 720
 uGM:CiIn K "FAR" 1000000000000
 eb:EbIn K
 uAC:E1In K "WrongSign" "WrongSign.__init__" lv
 uBA:EaIn K "WrongSign"
 uFR:NoIn K "WrongSign" "place"
 uAK:E1In K "OneLine" "OneLine.__init__" mH
 uAX:EaIn K "OneLine"
 uHF:NoIn K "OneLine" "place"
 uID:E0In K "TooGreat"
 uGZ:E0In K "TooFar"
 uFY:EiIn K "MotifError"
theorem EL{V:Bx}{h:Heap}(t:TopIn V.K)(X:V.K.In h)(G:h.Ns mainGlobals V.mg){fa:Addr}{fd:FuncData}(F:Fun V.K "law" "law" iP fa fd):FnOk V.P V.w V.K V.mg V.base (Exc.CX1 V.P V.w) 20 fa fd nV (lSp V.K eB):=by
 have uN:=mg_none_of X G t.uFL
 have uV:=mg_none_of X G t.uGW
 have uC:=mg_none_of X G t.uHU
 have uA:=mg_none_of X G t.uEV
 have uD:=mg_none_of X G t.uEI
 have uK:=mg_none_of X G t.uFX
 have MF:=mg_none_of X G t.uED
 have uX:=mg_none_of X G t.uHK
 have Jp:=mg_none_of X G t.uER
 have Nk:=mg_none_of X G t.uGY
 have uZ:=mg_none_of X G t.uFF
 have No:=mg_none_of X G t.uEN
 have IB:=t.uBR.a t.uHN
 have uF:=t.uBR.a t.uFM
 have IC:=t.uBG.a t.uHO
 have uJ:=t.uBG.a t.uIQ
 have ID:=t.uBG.a t.uGA
 have uR:=t.uCN.a t.uHL
 have uQ:=t.uCM.a t.uFA
 have uS:=t.uBW.a t.uFH
 have uU:=t.uBW.a t.uGV
 have uT:=t.uBM.a t.uFE
 have IE:=t.uBM.a t.uHV
 have IF:=t.uBM.a t.uGR
 have uO:=t.uBN.a t.uFC
 have IG:=t.uBN.a t.uIE
 have IH:=t.uBN.a t.uEB
 have M7:=t.uDE.a t.uGJ
 have uP:=t.uDE.a t.uEE
 have JI:=t.uDE.a t.uIJ
 have uL:=t.uFJ.g X G
 have Lj:=t.uIK.g X G
 have Kz:=t.uET.g X G
 have M_:=t.uGE.g X G
 have Nf:=t.uGM.g X G
 have uBA:=t.uAC.a t.eb t.uBA X G
 have ML:=t.uFR.all
 have uAX:=t.uAK.a t.eb t.uAX X G
 have M8:=t.uHF.all
 have Nc:=t.uID.k t.eb X G
 have Ng:=t.uGZ.k t.eb X G
 have JF:=t.uFY.b X G
 have Jy:iQ V:=Df (t.uEX.tx X G (by walk_at "b2")) uN
 have Jz:iR V:=Dg (t.uFO.tx X G (by walk_at "b4"))
 have La:nW V:=Dh (t.uEG.tx X G (by walk_at "b1")) uN Jy Jz
 have Mp:nX V:=Di (t.uEM.tx X G (by walk_at "b3"))
 have Mt:nY V:=Dj (t.uEO.tx X G (by walk_at "b2")) Jy Mp
 have JB:iS V:=Dk (t.uFU.tx X G (by walk_at "b1")) La Mt
 have Ji:iT V:=Dl (t.uIB.tx X G (by walk_at "b2")) uV JB
 have uW:iU V:=Dm (t.uHW.tx X G (by walk_at "b2")) uC
 have JD:iV V:=Dn (t.uHQ.tx X G (by walk_at "b3")) uA uW
 have MB:nZ V:=Do (t.uGF.tx X G (by walk_at "b1")) uA uC
 have MC:oa V:=Dp (t.uGG.tx X G (by walk_at "b1")) uD
 have MD:oe V:=Dq (t.uHB.tx X G (by walk_at "b3")) uK
 have Lf:og V:=Dr (t.uGP.tx X G (by walk_at "b2")) JD MB MC MD
 have Lg:oh V:=Ds (t.uFT.tx X G (by walk_at "b2")) uK MF uD
 have Lh:oi V:=Dt (t.uIA.tx X G (by walk_at "b2")) uA JD Lf Lg Ji
 have Nv:oj V:=Dv (t.uHS.tx X G (by walk_at "b2")) Ji Lh
 have uAC:iW V:=Dw (t.uAC.txe t.eb X G (by walk_at "b2")) JF uBA ML
 have uI:dm V:=Dx (t.uIO.txm t.uBR (by walk_at "b2")) uC IB uF
 have uB:cE V:=Dy (t.uFS.txm t.uBR (by walk_at "b2")) uF uI uAC
 have Li:ol V:=Dz (t.uEK.tx X G (by walk_at "b3")) uA uL uB uI
 have MV:om V:=DB (t.uEU.tx X G (by walk_at "b1")) uC Li Lj uI
 have Ll:oq V:=DC (t.uHR.tx X G (by walk_at "b1")) uD uI uB
 have Io:fR V:=DD (t.uGH.tx X G (by walk_at "b1")) Ll uB
 have JG:iX V:=DF (t.uEH.tx X G (by walk_at "b2"))
 have JH:iY V:=DG (t.uEW.tx X G (by walk_at "b2")) uN JG
 have uM:dR V:=DH (t.uEC.tx X G (by walk_at "b3"))
 have MU:ot V:=DJ (t.uGQ.tx X G (by walk_at "b2")) uX uM uL
 have MX:ou V:=DK (t.uHI.txi X G (by walk_at "b5")) JH MU IC uJ ID
 have Ky:iZ V:=DL (t.uIM.tx X G (by walk_at "b1")) MV Io uF MX uB
 have KA:ja V:=DM (t.uHC.txi X G (by walk_at "b2")) uR
 have KC:jb V:=DN (t.uHJ.txi X G (by walk_at "b2")) uQ
 have Kv:jc V:=DO (t.uHT.txi X G (by walk_at "b3")) uS uU
 have Kw:jd V:=DP (t.uIG.txi X G (by walk_at "b4")) uT IE IF
 have Kx:je V:=DQ (t.uGN.txi X G (by walk_at "b4")) uO IG IH
 have uH:uc V:=DZ (t.uHD.tx X G (by walk_at "b2")) (t.uGX.tx X G (by walk_at "b2")) (t.uFI.tx X G (by walk_at "b2")) (t.uIH.tx X G (by walk_at "b2")) Kv uB Io Kw uD Kx Ky Kz KA KC uI 6
 have Na:ow V:=D0 (t.uGB.txi X G (by walk_at "b2")) IB uF
 have Nb:oy V:=D1 (t.uIC.txi X G (by walk_at "b4")) M7 uP JI
 have uAK:jg V:=D2 (t.uAK.txe t.eb X G (by walk_at "b2")) JF uAX M8
 have KE:oz V:=D3 (t.uHZ.tx X G (by walk_at "b2")) JG
 have KG:jh V:=D4 (t.uHX.tx X G (by walk_at "b2")) KE
 have KI:ji V:=D5 (t.uEY.tx X G (by walk_at "b1"))
 have KJ:jj V:=D6 (t.uGS.tx X G (by walk_at "b1")) JH
 have uE:ud V:=Ec (t.uIP.txm t.uBG (by walk_at "b1")) (t.uEQ.txm t.uBW (by walk_at "b1")) (t.uGL.txm t.uBM (by walk_at "b1")) (t.uFP.txm t.uCN (by walk_at "b1")) (t.uGO.txm t.uCM (by walk_at "b1")) (t.uFB.txm t.uBN (by walk_at "b1")) uJ IC uAK KG uS uU uT KI uR KJ uQ uO 6
 have Nw:oA V:=Ed (t.uFG.tx X G (by walk_at "b1")) uC uH M_ uF Na Nb uE uAC Nc
 have Jn:jk V:=Ee (t.uIL.tx X G (by walk_at "b2")) uV uN Nf Ng
 have uG:ue V:=Ek (t.uEZ.txm t.uBG (by walk_at "b3")) (t.uEJ.txm t.uBW (by walk_at "b3")) (t.uFN.txm t.uBM (by walk_at "b3")) (t.uFW.txm t.uCN (by walk_at "b3")) (t.uII.txm t.uCM (by walk_at "b3")) (t.uES.txm t.uBN (by walk_at "b3")) uM ID uJ uS uU uT IF IE uR uQ uO IG IH 6
 have Ir:fS V:=El (t.uHH.tx X G (by walk_at "b3")) Jn JI uG
 have Nj:oB V:=Em (t.uHG.tx X G (by walk_at "b3")) uA uC uD Jz
 have Ln:oC V:=En (t.uGI.tx X G (by walk_at "b3")) Nj
 have uY:fT V:=Eo (t.uGD.tx X G (by walk_at "b1")) Jp Nk uD
 have Iu:fU V:=Ep (t.uHY.tx X G (by walk_at "b4")) uA Ir uL
 have JN:jl V:=Er (t.uGK.tx X G (by walk_at "b1")) uA Iu uP
 have JL:C_measures V:=Es (t.uFK.tx X G (by walk_at "b1")) uA
 have JK:jm V:=Et (t.uGC.tx X G (by walk_at "b4")) uM
 have JM:jn V:=Eu (t.uEF.tx X G (by walk_at "b4")) uX JK
 have Nm:oE V:=Ev (t.uFV.tx X G (by walk_at "b2")) uZ JL JM
 have Lm:oF V:=Ew (t.uEL.tx X G (by walk_at "b4")) uA JM
 have Np:oG V:=Ey (t.uHE.tx X G (by walk_at "b1")) uZ JN Nm JL Lm uP
 have Nx:oH V:=Ez (t.uHP.tx X G (by walk_at "b1")) uA No Np Iu
 have Lo:oI V:=EA (t.uFZ.tx X G (by walk_at "b1"))
 have Ny:oJ V:=EC (t.uIN.tx X G (by walk_at "b5")) Jp uK Ir uY Iu uM
 have Nq:oK V:=EE (t.uHM.tx X G (by walk_at "b3")) uC
 have Nt:oM V:=EF (t.uGT.tx X G (by walk_at "b5")) uV uA uZ uX Jn JN JK Nq uL uP
 have Nu:oN V:=EG (t.uGU.tx X G (by walk_at "b6")) uC Nt
 have Nz:oO V:=EJ (t.uFQ.tx X G (by walk_at "b5")) uD Nu uY
 exact EK F uA Nv JB Nw Ir Ln uY Nx Lo uW Ny Nz
theorem all_mk{l:GX}{w:World}{K:Ex}{h:Heap}{mg:Str->Option Value}{fa:Addr}(X:K.In h)(G:h.Ns mainGlobals mg)(Kg:mg "law"=some (.ref fa))(t:TopIn K):
  ∃ fd:FuncData,(∀ (s:Shared) (v:Value),BindsTo s fd ⟨[v],[]⟩ [("_law_script",v)])/\∀ base:Heap,K.In base->base.Ns mainGlobals mg->FnOk l.prog w K mg base (Exc.CX1 l.prog w) 20 fa fd ["_law_script"] (lSp K eB):=by
 obtain⟨fd,b,F⟩:=t.uHA.law X G Kg (λ_ _ _ _ _ _ _=>rfl)
 exact⟨fd,b,λbase _ _=>EL (V:=⟨l.prog,w,K,mg,base⟩) t X G F⟩
theorem law_walk{l:GX}{q:Program}{j7:List Str}{XP:(Str->Option Value)->Heap->Prop}{YP:World->Heap->Prop}{d:DefRec}{K:Params->Ex}(hn:l.most=some 63)(JX:d.params.defaults=[])
  (hY:∀ (w:World) (h:Heap),YP w h->(K w.params).In h)
  (F:∀ (w:World) (mg:Str->Option Value) (fa:Addr) (h:Heap),(K w.params).In h->h.Ns mainGlobals mg->mg d.name=some (.ref fa)->
   ∃ fd:FuncData,(∀ (s:Shared) (u:Value),BindsTo s fd ⟨[u],[]⟩ [("_law_script",u)])/\∀ base:Heap,(K w.params).In base->base.Ns mainGlobals mg->FnOk l.prog w (K w.params) mg base (Exc.CX1 l.prog w) 20 fa fd ["_law_script"] (lSp (K w.params) eB)):
  Hv q j7 XP YP l.row.toRowW d [] (λf vs=>PySem.call f vs):=
 L2.walk_of (n:=63) (k:=20) (x:="_law_script") (CX:=λw=>Exc.CX1 l.prog w) (sp:=λw=>lSp (K w.params) eB) hn (by decide) JX ⟨rfl,by decide,by decide⟩ hY F (λ_ _ a ns hl _ hS=>xX hl hS) λ_ _ _ _ _ ⟨_,_,_,_,_,_,_,_,_,_,_,_,_,_,_,z⟩=>z
end My
open PySem PySem.W PyProof.Rows
local macro_rules | `(tactic| walk_at "top") => `(tactic| first | ((with_reducible refine' My.fnIn_mk ?a ?l ?c ?k); (case a => k_is); (case l => k_is); (case c => k_is); (case k => k_is)) | ((with_reducible refine' My.nnIn_mk ?a); (case a => k_is)) | ((with_reducible refine' My.noIn_mk ?a ?b); (case a => k_is); (case b => k_is)) | ((with_reducible refine' My.mtIn_mk ?a ?b ?i ?l ?c ?k); (case a => k_is); (case b => k_is); (case i => k_is); (case l => k_is); (case c => k_is); (case k => k_is)) | ((with_reducible refine' My.inIn_mk ?a ?mk ?b ?i ?kp ?l ?c ?k); (case a => k_is); (case mk => k_is); (case b => k_is); (case i => k_is); (case kp => k_is); (case l => k_is); (case c => k_is); (case k => k_is)) | ((with_reducible refine' My.clIn_mk ?a ?pg ?hd ?po ?sa ?ha ?hn ?ht ?hm); (case a => k_is); (case pg => k_is); (case hd => k_is); (case po => k_is); (case sa => k_is); (case ha => k_is); (case hn => k_is); (case ht => k_is); (case hm => k_is)) | ((with_reducible refine' My.ciIn_mk ?a); (case a => k_is)) | ((with_reducible refine' My.csIn_mk ?a); (case a => k_is)) | ((with_reducible refine' My.ebIn_mk ?a ?kp ?o ?nk ?al ?ni); (case a => k_is); (case kp => k_is); (case o => k_is); (case nk => k_is); (case al => rfl); (case ni => k_is)) | ((with_reducible refine' My.e0In_mk ?b ?a ?kp ?o ?nk ?al ?ni); (case b => k_is); (case a => k_is); (case kp => k_is); (case o => k_is); (case nk => k_is); (case al => rfl); (case ni => k_is)) | ((with_reducible refine' My.e1In_mk ?b ?a ?kp ?o ?j ?i ?l ?c ?k); (case b => k_is); (case a => k_is); (case kp => k_is); (case o => k_is); (case j => k_is); (case i => k_is); (case l => k_is); (case c => k_is); (case k => k_is)) | ((with_reducible refine' My.eaIn_mk ?a ?b); (case a => k_is); (case b => k_is)) | ((with_reducible refine' My.eiIn_mk ?a ?b ?c ?d); (case a => k_is); (case b => k_is); (case c => k_is); (case d => k_is)))
set_option maxRecDepth 100000 in
set_option maxHeartbeats 0 in
theorem PySem.Challenge.cw_motiffield_k37_whole_cells_holds : PySem.Challenge.rw_motiffield_k37_whole_cells.Holds := by
  w_on; o_law; k_head; (case hw => w_witness2)
  k_fill
  refine My.law_walk (l := PySem.Challenge.rw_motiffield_k37_whole_cells) rfl rfl (λw h Y => kIn_of Y) ?F
  case F =>
    intro w mg fa h KX G l9
    refine My.all_mk KX G l9 ?_
    constructor
    all_goals walk_at "top"
end
