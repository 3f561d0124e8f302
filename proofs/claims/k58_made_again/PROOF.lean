import PyProof.Rows.All
import Wide.All
import OpenK.AllK
import Wide.FinOn
import Lean
import PyProof.EqAt
import PyProof.EqKinds
import PyProof.TupleCall
import PySem.Challenge.RW_lodge_k58_made_again
set_option Elab.async false
set_option linter.all false
set_option maxRecDepth 100000
set_option genSizeOf false
namespace PySem.W.Fast
def tw18032993712675816238 := 0
def tw2105335233854883565 := 0
def tw14641286131000900383 := 0
def tw14973583843293851373 := 0
def tw3070563391683197503 := 0
def tw18317367019738235817 := 0
def tw1570809681320511960 := 0
def tw6575983192080060067 := 0
def tw7475014534492752189 := 0
def tw12502888794478862906 := 0
def tw15662203526212572925 := 0
def tw13179585984980997768 := 0
def tw16631136875233151285 := 0
def tw11877080956337727898 := 0
def tw2012978632486310901 := 0
def tw16459786787481700869 := 0
def tw17793805316246713994 := 0
def tw12825084817127226536 := 0
def tw846900723624839133 := 0
def tw11322488168228641009 := 0
def tw7858695871864313953 := 0
def tw15406077999013058062 := 0
def tw4407656479564918246 := 0
def tw17314618522871666045 := 0
def tw2766296905513515201 := 0
def tw15367493734735523083 := 0
def tw5483234943969012224 := 0
def tw12092860837007074074 := 0
def tw12006371514693637206 := 0
def tw939060093406497609 := 0
def tw18205812766948706342 := 0
def tw2816302425092355851 := 0
def tw16491391693963773280 := 0
def tw15317716148046639005 := 0
def tw2345110213410952167 := 0
def tw4797089473444549325 := 0
def tw16017632066168473029 := 0
def tw4974253830544992251 := 0
def tw6517571820446922462 := 0
def tw8186746299710139841 := 0
def tw6354835984362781444 := 0
def tw16612429745305372588 := 0
def tw14186931796304791104 := 0
def tw800428253495885255 := 0
def tw13244052666641746628 := 0
def tw16519640981524741852 := 0
def tw7643494359132396752 := 0
def tw13154752199644959666 := 0
def tw14280242211641486252 := 0
def tw8476781442831242472 := 0
def tw9377461155342216118 := 0
def tw15616989317118956091 := 0
def tw13466327179834708529 := 0
def tw18393957631042610272 := 0
def tw2370336219794186595 := 0
def tw2422113380875262213 := 0
def tw1026134028827236870 := 0
def tw3905051327476082959 := 0
def tw1016054342744977630 := 0
def tw7646470110856580028 := 0
def tw1450508886929284838 := 0
def tw18207113125630608762 := 0
def tw7673118767682733989 := 0
def tw7056173254421334671 := 0
def tw4819278239778877862 := 0
def tw12383893998107729206 := 0
def tw4630687081834746304 := 0
def tw6008108367154668986 := 0
def tw14253604838271526423 := 0
def tw16775873763320759572 := 0
def tw5284624485636692723 := 0
def tw9736523962570799624 := 0
def tw9648783207899653789 := 0
def tw10687898015746056329 := 0
def tw17263484342067004045 := 0
def tw9848463284411259198 := 0
def tw6819003944946096092 := 0
def tw6721710983218391166 := 0
def tw2224846654565324460 := 0
def tw5327534019896607305 := 0
def tw16289602710040667975 := 0
def tw11969423935591301383 := 0
def tw5717161724899927819 := 0
def tw9978284797619436025 := 0
def tw18399065408700688319 := 0
def tw8325546716949342843 := 0
def tw11042727433226679681 := 0
def tw13265085948185416458 := 0
def tw15048401466612434700 := 0
def tw2404587284287094234 := 0
def tw4036148249000015149 := 0
def tw8731943763243599868 := 0
def tw516609274161166019 := 0
def tw10778592890679142132 := 0
def tw5312926214908392037 := 0
def tw3540883606650760427 := 0
def tw10705992919593016792 := 0
def tw11381878793260443812 := 0
def tw15011979812964041294 := 0
def tw968799072538328099 := 0
def tw6471360839406622085 := 0
def tw16942158331136175651 := 0
def tw1499960930623105282 := 0
def tw10235810103958030781 := 0
def tw5295904133600581551 := 0
def tw16924721289781220379 := 0
def tw1976677787363456442 := 0
def tw14554656191971778740 := 0
def tw8503522502411912496 := 0
def tw7801053191209977221 := 0
def tw15659905787616482878 := 0
def tw2665141907629995698 := 0
def tw13662495469017779870 := 0
def tw7098219095208339194 := 0
def tw8268170240002148190 := 0
def tw197761219879314629 := 0
def tw14639019212356695706 := 0
def tw16306287076020758206 := 0
def tw6911874280888530052 := 0
def tw1358933468649541756 := 0
def tw135191887421618916 := 0
def tw3759539854228499166 := 0
def tw11850764285782671562 := 0
def tw13576680959722709988 := 0
def tw2032596429446096522 := 0
def tw14353689513268885086 := 0
def tw16146670455994346265 := 0
def tw13082758431462352209 := 0
def tw9335692316039793122 := 0
def tw5861816571915466182 := 0
def tw8916600826617607623 := 0
def tw1176938748480266805 := 0
def tw1429993057033439957 := 0
def tw2299210902618959507 := 0
def tw12419809398417596516 := 0
def tw12907881414080821051 := 0
def tw14661866027686827055 := 0
def tw10326215132753510279 := 0
def tw12427085630256772170 := 0
def tw8454827367760017926 := 0
def tw14518390636557487464 := 0
def tw10880176815754357187 := 0
def tw12504623060424898260 := 0
def tw5990129807060390570 := 0
def tw8780839896688526014 := 0
def tw8050638310220666467 := 0
def tw4177440748339516537 := 0
def tw10135481913531918003 := 0
def tw4539949203385882688 := 0
def tw15873606141059507043 := 0
def tw5045077857598838496 := 0
def tw8959797587330173055 := 0
def tw16900907259993754715 := 0
def tw12079890976865950891 := 0
def tw16417556291579985678 := 0
def tw8952421976739032138 := 0
def tw1311323098901468428 := 0
def tw2545688040154900966 := 0
def tw12273890283293086639 := 0
def tw9972483447955400277 := 0
def tw16777673431683142881 := 0
def tw14176455521590578389 := 0
def tw2539326273189748098 := 0
def tw3934868045794482343 := 0
def tw16022507705316577021 := 0
def tw12528383450198291382 := 0
def tw17243506167647553017 := 0
def tw11990325487206357334 := 0
def tw7030686821947378160 := 0
def tw9713475906937003397 := 0
def tw4279441713299055432 := 0
def tw18351268625549510250 := 0
def tw6113356295953576052 := 0
def tw4911982124257197048 := 0
def tw8452407400366708542 := 0
def tw8553212960274288819 := 0
def tw534428344643502639 := 0
def tw6068705076503653985 := 0
def tw1117272014333962715 := 0
def tw5017048086463560248 := 0
def tw7006937728313644980 := 0
def tw230549003446222118 := 0
def tw1735235120475175036 := 0
def tw16142155410919771038 := 0
def tw1773971615698147903 := 0
def tw15726072761036590651 := 0
def tw14519945645817811570 := 0
def tw4090154779710180330 := 0
def tw17564204717761317861 := 0
def tw9414323092255185956 := 0
def tw10052526856255651493 := 0
def tw10052674954292293157 := 0
def tw15877802496855647442 := 0
def tw581469657681859746 := 0
def tw14162416435093101537 := 0
def tw9006501048025567081 := 0
def tw2263150098271141739 := 0
def tw18131635287160754407 := 0
def tw15612023743091091442 := 0
def tw9306914204304038382 := 0
def tw1684461726524922858 := 0
def tw13262936459162029316 := 0
def tw4676675091104893853 := 0
def tw3891472124736631052 := 0
def tw10574077196689999693 := 0
def tw13605362554145585509 := 0
def tw11803926823828114696 := 0
def tw14236010256389994428 := 0
def tw12825505755430000603 := 0
def tw15151320662676756691 := 0
def tw5125222242406462328 := 0
def tw13674803301765512372 := 0
def tw10377921840219849399 := 0
def tw15510152966284112305 := 0
def tw11472474202279010421 := 0
def tw2233845323016332475 := 0
def tw14539070171551447504 := 0
def tw16444677023349663628 := 0
def tw8773955529000850091 := 0
def tw17944439218668490680 := 0
def tw7765484132222933820 := 0
def tw9801500102099637921 := 0
def tw13423772982397235559 := 0
def tw3065803754805671813 := 0
def tw17071079114909627924 := 0
def tw8183621071665785249 := 0
def tw5430554838726933431 := 0
def tw17814516390387858755 := 0
def tw15567236734643798270 := 0
def tw8495717152348842965 := 0
def tw16444976747759649068 := 0
def tw13730080831628838978 := 0
def tw17232566698820540574 := 0
def tw15219041085402418170 := 0
def tw18426092304061566040 := 0
def tw4860240942571155131 := 0
def tw404282226358762097 := 0
def tw11915465762369680631 := 0
def tw3106854648434441743 := 0
def tw4073470451850146214 := 0
def tw3658615472971880751 := 0
def tw10365446086084300305 := 0
def tw11076280904615660836 := 0
def tw4399148344059516839 := 0
def tw11861366862028836525 := 0
def tw16624475289126825235 := 0
def tw12138233412199877459 := 0
def tw8039982574326902094 := 0
def tw2361331353638807056 := 0
def tw10225844595276485627 := 0
def tw7739483105533808057 := 0
def tw6665157546722689092 := 0
def tw17067250884149493390 := 0
def tw14029447582599654661 := 0
def tw2543086551822903063 := 0
def tw2284281923298356073 := 0
def tw673445288523106347 := 0
def tw3992722414693027347 := 0
def tw18219634763328839545 := 0
def tw17651585560495997597 := 0
def tw12977362203500223941 := 0
def tw16933045918332873812 := 0
def tw3414241539391770036 := 0
def tw9383636885243442547 := 0
def tw6028000805600823271 := 0
def tw5173678561496772515 := 0
def tw2659078026462156970 := 0
def tw10628233175524976294 := 0
def tw8020243000993988623 := 0
def tw3803144134117809996 := 0
def tw17829999249138586791 := 0
def tw4553124830266139957 := 0
def tw163518434135060624 := 0
def tw674587231851500496 := 0
def tw4936318510853984187 := 0
def tw10658978981898738604 := 0
def tw13453963951835404938 := 0
def tw15275770468233110711 := 0
def tw18059480584752221897 := 0
def tw9060539218736780767 := 0
def tw9018944098257348232 := 0
def tw8009064527085927137 := 0
def tw7914358677036591440 := 0
def tw4473123893522779240 := 0
def tw6755203799990042013 := 0
def tw17834077069537486196 := 0
def tw16447003471146525154 := 0
def tw12249185695212777202 := 0
def tw5959347261256854802 := 0
def tw16477363370007426675 := 0
def tw13720368706794844708 := 0
def tw6741197958578265122 := 0
def tw10839475988041432126 := 0
def tw8398308109363989501 := 0
def tw5893834293162903024 := 0
def tw16632257206860483330 := 0
def tw9255959320186451625 := 0
def tw6783981021375416239 := 0
def tw12546487898845644620 := 0
def tw15487451368314469356 := 0
def tw2727586946218433551 := 0
def tw8146535439181111201 := 0
def tw9884711937721359123 := 0
def tw13725249783245881723 := 0
def tw3226960041473833612 := 0
def tw10062437804375661531 := 0
def tw7677872395881174489 := 0
def tw11558200836264293878 := 0
def tw2525673038850096145 := 0
def tw7249468354311072786 := 0
def tw14484647548543561391 := 0
def tw11191039068923200453 := 0
def tw9594709303775843204 := 0
def tw14599851841418147065 := 0
def tw4027791876177261972 := 0
def tw2291488601458587134 := 0
def tw9353169092393093476 := 0
def tw2350180942758215021 := 0
def tw9664028464912970583 := 0
def tw226365255383613946 := 0
def tw11148274381122068010 := 0
def tw4816347345691236320 := 0
def tw15307232885487434893 := 0
def tw6943105323490133099 := 0
def tw7616989581079289934 := 0
def tw381407376220871037 := 0
def tw16552802730924561850 := 0
def tw13955222063445548628 := 0
def tw9538211512234117412 := 0
def tw4877769616803169428 := 0
def tw18387173143007301957 := 0
def tw18038735073279236429 := 0
def tw14640967540506102440 := 0
def tw1382147678693101143 := 0
def tw11100700817114257693 := 0
def tw10332581755226934732 := 0
def tw6420655275173421005 := 0
def tw9535100690464600386 := 0
def tw4566296602366978899 := 0
def tw13704320530992956808 := 0
def tw13768233487506639156 := 0
def tw2977901345296611834 := 0
def tw682785244074743352 := 0
def tw18009690798212744631 := 0
def tw17806765213505166901 := 0
def tw17802313248845202746 := 0
def tw11265817561275314124 := 0
def tw7709046705945245943 := 0
def tw1735916290516030506 := 0
def tw12749922034256773942 := 0
def tw1233742949557988237 := 0
def tw5470111372113921982 := 0
def tw5197292710659337076 := 0
def tw5755890852652269712 := 0
def tw2741740023723933581 := 0
def tw11359020008729462985 := 0
def tw17480919752097847638 := 0
def tw8817427233752638471 := 0
def tw14442102110338802621 := 0
def tw2894142661600733865 := 0
end PySem.W.Fast
noncomputable section
open PySem.W (Frag InitBack InstAt Looks any_some bind_fn callWith_K callWith_K0 cellsFrom_some check_slot clsIn cls_value codeIn codeRec_of emptyDict eq_bytes exmOne exm_one findCls findIn findObj_own fnOf get_value handedIn hasDictIn hideAll hideAll_get hideAll_none hideAll_size instObj isFn kdl_call kdl_dict keepIn ki_setAt ki_setBack kia_one kitOne kitx_bool kitx_int kitx_list kitx_none kitx_own kitx_str kitx_tuple lookIn looks_clsIn looks_findIn looks_mroIn make_core makesIn makes_of methodCall_KW methodObj method_cls method_fn mg_none_of mg_of mroIn ne_bytes nsIn of_hideAll osa_eq osa_open plainGet plainGet_of plainOver readsIn set_plain specialIn takerIn takesIn truthy_bytes typeIn)
local macro_rules
 | `(tactic| rfl') => `(tactic| kernel_rfl)
local macro_rules
 | `(tactic| simp_arith [$xs,*] $[$l:location]?) => `(tactic| simp only [Nat.reduceAdd, Nat.reduceSub, Nat.reduceLeDiff, ↓reduceIte, reduceCtorEq, $xs,*] $[$l:location]?)
namespace L2
open PySem PySem.Spec PyProof.Rows
abbrev At:=Sum Int Str
def bl_4:At->Value->Bool
 | .inl k,v=>Value.isInt k v
 | .inr x,v=>Value.isStrOf x v
def keyH(w:World):At->Int
 | .inl k=>hashInt k
 | .inr x=>hashStr w x
def j_0:∀{k:At} {v:Value},bl_4 k v=true->(∃i t,k=Sum.inl i/\v=Value.int i t)\/(∃x t,k=Sum.inr x/\v=Value.str x t)
 | .inl i,v,h=>by
  obtain⟨t,e⟩:=Value.isInt_shape (k:=i) (v:=v) h;exact .inl ⟨i,t,rfl,e⟩
 | .inr x,v,h=>by
  obtain⟨t,e⟩:=Value.isStrOf_shape (x:=x) (v:=v) h;exact .inr ⟨x,t,rfl,e⟩
def cu_1(i:Int)(t:Tok):bl_4 (.inl i) (.int i t)=true:=by simp [bl_4,Value.isInt]
def cu_2(x:Str)(t:Tok):bl_4 (.inr x) (.str x t)=true:=by simp [bl_4,Value.isStrOf]
def dx_0(a b:Int):decide ((Sum.inl a:At)=Sum.inl b)=(a ==b):=by
 by_cases e:a=b
 ·subst e;simp
 ·have h:¬(Sum.inl a:At)=Sum.inl b:=λq=>e (Sum.inl.inj q);rw [decide_eq_false h];exact(beq_eq_false_iff_ne.mpr e).symm
def dx_1(a b:Str):decide ((Sum.inr a:At)=Sum.inr b)=decide (a=b):=by
 by_cases e:a=b
 ·subst e;simp
 ·have h:¬(Sum.inr a:At)=Sum.inr b:=λq=>e (Sum.inr.inj q);rw [decide_eq_false h,decide_eq_false e]
def dx_2(a:Int)(b:Str):decide ((Sum.inl a:At)=Sum.inr b)=false:=decide_eq_false (λq=>nomatch q)
def dx_3(a:Str)(b:Int):decide ((Sum.inr a:At)=Sum.inl b)=false:=decide_eq_false (λq=>nomatch q)
def i_9(prog:Program)(w:World):PySem.KeyKind prog w At where
 is:=bl_4
 hash:=keyH w
 inj:=λv a b ha hb=>by
  rcases j_0 ha with⟨i,t,rfl,rfl⟩|⟨x,t,rfl,rfl⟩
  ·rcases j_0 hb with⟨j,u,rfl,e⟩|⟨y,u,rfl,e⟩
   ·injection e with e1 _;rw [e1]
   ·exact nomatch e
  ·rcases j_0 hb with⟨j,u,rfl,e⟩|⟨y,u,rfl,e⟩
   ·exact nomatch e
   ·injection e with e1 _;rw [e1]
 byValue:=λk v h=>by
  rcases j_0 h with⟨i,t,rfl,rfl⟩|⟨x,t,rfl,rfl⟩ <;> rfl
 pyHash:=λhv h=>by
  rcases j_0 hv with⟨i,t,rfl,rfl⟩|⟨x,t,rfl,rfl⟩
  ·exact wpAny_pyHash_int h
  ·exact wpAny_pyHash_str h
 eqBool:=λhu hv h=>by
  rcases j_0 hu with⟨i,t,rfl,rfl⟩|⟨x,t,rfl,rfl⟩
  ·rcases j_0 hv with⟨j,u,rfl,rfl⟩|⟨y,u,rfl,rfl⟩
   ·rw [dx_0] at h;exact wpAny_eqBool_int h
   ·rw [dx_2] at h;exact SeqAt.EqAt.int_str i t y u _ _ _ _ h
  ·rcases j_0 hv with⟨j,u,rfl,rfl⟩|⟨y,u,rfl,rfl⟩
   ·rw [dx_3] at h;exact SeqAt.EqAt.str_int x t j u _ _ _ _ h
   ·rw [dx_1] at h;exact wpAny_eqBool_str h
 «strs»:=λk x t v h=>by
  rcases j_0 h with⟨i,u,rfl,e⟩|⟨y,u,rfl,e⟩
  ·exact nomatch e
  ·injection e with e1 _
   subst e1;cases v <;> rfl
def by_9(prog:Program)(w:World)(i:Int)(t:Tok):(i_9 prog w).is (.inl i) (.int i t)=true:=cu_1 i t
def bz_0(prog:Program)(w:World)(x:Str)(t:Tok):(i_9 prog w).is (.inr x) (.str x t)=true:=cu_2 x t
inductive V where
 |non|bl (b:Bool)|int (i:Int)|str (x:Str)|byt (b:Array UInt8)|flt (b:UInt64)|ref (a:Addr)|ty (n:String)
 deriving DecidableEq
def RelV:V->Value->Prop
 | .non,u=>u=Value.none
 | .bl b,u=>u=Value.bool b
 | .int i,u=>∃t,u=Value.int i t
 | .str x,u=>∃t,u=Value.str x t
 | .byt b,u=>∃t,u=Value.bytes b t
 | .flt b,u=>∃t,u=Value.float b t
 | .ref a,u=>u=Value.ref a
 | .ty n,u=>u=Value.type n
abbrev Vals:List V->List Value->Prop:=Paired RelV
theorem Vals.length{xs:List V}{us:List Value}(r:Vals xs us):xs.length=us.length:=Paired.length r
theorem Vals.get:∀{xs:List V} {us:List Value} {i:Nat} {x:V},Vals xs us->xs[i]? =some x->∃u,us[i]? =some u/\RelV x u
 |_,_,_,_,.nil,e=>by simp at e
 |_,_,0,_,.cons r _,e=>by simp at e;subst e;exact⟨_,rfl,r⟩
 |_,_,i + 1,x,.cons _ t,e=>by
  obtain⟨u,h1,h2⟩:=Vals.get (i:=i) (x:=x) t (by simpa using e);exact⟨u,by simpa using h1,h2⟩
theorem Vals.set{x:V}{u:Value}(r:RelV x u):∀{xs:List V} {us:List Value} (i:Nat),Vals xs us->Vals (xs.set i x) (us.set i u)
 |_,_,_,.nil=> .nil
 |_,_,0,.cons _ t=> .cons r t
 |_,_,i + 1,.cons q t=> .cons q (Vals.set r i t)
theorem Vals.append:∀{xs ys:List V} {us ws:List Value},Vals xs us->Vals ys ws->Vals (xs ++ ys) (us ++ ws)
 |_,_,_,_,.nil,s=>s
 |_,_,_,_,.cons r t,s=> .cons r (Vals.append t s)
theorem Vals.take:∀{xs:List V} {us:List Value} (n:Nat),Vals xs us->Vals (xs.take n) (us.take n)
 |_,_,0,_=> .nil
 |_,_,_ + 1,.nil=> .nil
 |_,_,n + 1,.cons r t=> .cons r (Vals.take n t)
theorem Vals.drop:∀{xs:List V} {us:List Value} (n:Nat),Vals xs us->Vals (xs.drop n) (us.drop n)
 |_,_,0,r=>r
 |_,_,_ + 1,.nil=> .nil
 |_,_,n + 1,.cons _ t=>Vals.drop n t
def RelO:Option V->Option Value->Prop
 |some v,some u=>RelV v u
 |none,none=>True
 |_,_=>False
def KV{κ:Type}:List (κ×V)->List (κ×Value)->Prop:=Paired λ(p:κ×V) (q:κ×Value)=>p.1=q.1/\RelV p.2 q.2
def kV:At->V
 | .inl i=> .int i
 | .inr x=> .str x
inductive HO where
  |lst (xs:List V)
  |tup (xs:List V)
  |dK (kvs:List (At×V))|dT (kvs:List (List At×V))
  |set (S:Int->Bool) (n:Nat)
  |ins (C dx:Addr) (fs:List (Str×V))
  |own (x:Addr)
  |xd (fs:List (Str×V))
  |met (f x:Addr)
  |rng (lo hi:Int)
  |frz (o:Obj) (u:HO)
  |tbl (ps:Array Value)
  |ext (φ:Heap->Prop)
abbrev Hp:=Addr->Option HO
def upd(H:Hp)(a:Addr)(o:HO):Hp:=λb=>if b=a then some o else H b
def Cs{H:Hp}{a:Addr}{o:HO}:upd H a o a=some o:=by unfold upd;rw [if_pos rfl]
def Bm{H:Hp}{a b:Addr}{o:HO}(h:b≠a):upd H a o b=H b:=by unfold upd;rw [if_neg h]
def ef_2{H:Hp}{a b:Addr}{o u:HO}(h:H a=some o)(h':H b=some u)(d:o≠u):a≠b:=by
 intro e;subst e;rw [h] at h';exact d (Option.some.inj h')
def Fz{H:Hp}{a b:Addr}{o:HO}(h:H a=some o)(h':H b=none):a≠b:=by
 intro e;subst e;rw [h] at h';cases h'
section
variable(P:Program)(w:World)
def ObjOk(H:Hp)(h:Heap)(a:Addr):HO->Prop
 | .lst xs=>xs.length<=sizeLine/\∃(its:List Value) (n:Nat),Vals xs its/\h.get? a=some {cls:=.type "list",data:=.seq its.toArray n}
 | .tup xs=>xs.length<=sizeLine/\∃its:List Value,Vals xs its/\IsTup h a its.toArray
 | .dK kvs=>kvs.length<=sizeLine/\(a ==sysModules)=false/\∃vs,KV kvs vs/\h.DictOf (i_9 P w) a vs
 | .dT kvs=>kvs.length<=sizeLine/\(a ==sysModules)=false/\∃xs:List (List At×Addr×Value),
   Paired (λ(p:List At×V) (q:List At×Addr×Value)=>p.1=q.1/\H q.2.1=some (.tup (p.1.map kV))/\RelV p.2 q.2.2) kvs xs/\
   ∃o es ep,h.get? a=some o/\o.ExactDict/\o.data=.dict es ep/\es.toList=xs.map (entryOfKey (tupleKind (i_9 P w)))/\(xs.map (·.1)).Nodup
 | .set S n=>h.SetOf (intKind P w) a S n
 | .ins C dx fs=>H dx=some (.own a)/\fs.length<=1000/\dx≠a/\h.get? a=some (instObj C dx)/\
   ∃mA,h.Ns1 dx mA/\(∀f,RelO (fs.lookup f) (mA f))/\PySem.Within mA (fs.map (·.1))
 | .own _=>∃o,h.get? a=some o
 | .xd fs=>∃mA,h.Ns1 a mA/\∀f,RelO (fs.lookup f) (mA f)
 | .rng lo hi=>∃t u v,h.get? a=some {cls:=.type "range",data:=.fields #[.int lo t,.int hi u,.int 1 v]}
 | .frz o u=>h.get? a=some o/\ObjOk H h a u
 | .tbl ps=>h.get? a=some {cls:=.none,data:=.fields ps}
 | .met f x=>h.get? a=some (methodObj (.ref f) (.ref x))
 | .ext φ=>φ h/\(∃o,h.get? a=some o)/\∀h1 h2:Heap,φ h1->(∀o,h1.get? a=some o->h2.get? a=some o)->φ h2
def HOk(H:Hp)(h:Heap):Prop:=∀a o,H a=some o->ObjOk P w H h a o
end
section
variable{P:Program}{w:World}{H H':Hp}{h h':Heap}{a:Addr}{o:HO}
theorem ObjOk.lt(x:ObjOk P w H h a o):a < h.objs.size:=by
 cases o with
 |lst xs=>obtain⟨_,_,_,_,e⟩:=x;exact Heap.lt_size e
 |tup xs=>obtain⟨_,_,_,p⟩:=x;exact p.lt
 |dK kvs=>obtain⟨_,_,_,_,o,_,_,e,_⟩:=x;exact Heap.lt_size e
 |dT kvs=>obtain⟨_,_,_,_,o,_,_,e,_⟩:=x;exact Heap.lt_size e
 |set S n=>obtain⟨o,_,_,_,e,_⟩:=x;exact Heap.lt_size e
 |ins C dx fs=>obtain⟨_,_,_,e,_⟩:=x;exact Heap.lt_size e
 |own y=>obtain⟨_,e⟩:=x;exact Heap.lt_size e
 |xd fs=>obtain⟨_,⟨_,_,_,e,_⟩,_⟩:=x;exact Heap.lt_size e
 |rng lo hi=>obtain⟨_,_,_,e⟩:=x;exact Heap.lt_size e
 |frz ob u=>obtain⟨e,_⟩:=x;exact Heap.lt_size e
 |tbl ps=>exact Heap.lt_size (show h.get? a=some _ from x)
 |met f y=>exact Heap.lt_size (show h.get? a=some _ from x)
 |ext φ=>obtain⟨_,⟨_,e⟩,_⟩:=x;exact Heap.lt_size e
theorem Paired.mapP{α β:Type}{F G:α->β->Prop}:∀{l₁:List α} {l₂:List β},Paired F l₁ l₂->(∀a b,F a b->G a b)->Paired G l₁ l₂
 |_,_,.nil,_=> .nil
 |_,_,.cons r t,f=> .cons (f _ _ r) (Paired.mapP t f)
def ObjOk.stay(x:ObjOk P w H h a o)(k:∀b u,(b=a\/H b=some (.own a))->h.get? b=some u->h'.get? b=some u)
  (ho:∀b,H b=some (.own a)->H' b=some (.own a)) (ht:∀b xs,H b=some (.tup xs)->H' b=some (.tup xs)):ObjOk P w H' h' a o:=by
 induction o with
 |lst xs=>obtain⟨z,its,n,r,e⟩:=x;exact⟨z,its,n,r,k _ _ (.inl rfl) e⟩
 |tup xs=>obtain⟨z,its,r,ob,e,c⟩:=x;exact⟨z,its,r,ob,k _ _ (.inl rfl) e,c⟩
 |dK kvs=>obtain⟨z,y,vs,r,ob,es,ep,e,c⟩:=x;exact⟨z,y,vs,r,ob,es,ep,k _ _ (.inl rfl) e,c⟩
 |dT kvs=>
  obtain⟨z,y,xs,r,ob,es,ep,e,c⟩:=x;exact⟨z,y,xs,Paired.mapP r λp q z=>⟨z.1,ht _ _ z.2.1,z.2.2⟩,ob,es,ep,k _ _ (.inl rfl) e,c⟩
 |set S n=>obtain⟨ob,es,ep,t,e,c⟩:=x;exact⟨ob,es,ep,t,k _ _ (.inl rfl) e,c⟩
 |ins C dx fs=>
  obtain⟨d,z,ne,e,mA,⟨od,es,ep,e2,c⟩,r⟩:=x;exact⟨ho _ d,z,ne,k _ _ (.inl rfl) e,mA,⟨od,es,ep,k _ _ (.inr d) e2,c⟩,r⟩
 |own y=>obtain⟨ob,e⟩:=x;exact⟨ob,k _ _ (.inl rfl) e⟩
 |xd fs=>obtain⟨mA,⟨od,es,ep,e,c⟩,r⟩:=x;exact⟨mA,⟨od,es,ep,k _ _ (.inl rfl) e,c⟩,r⟩
 |rng lo hi=>obtain⟨t,u,v,e⟩:=x;exact⟨t,u,v,k _ _ (.inl rfl) e⟩
 |frz ob u ih=>obtain⟨e,q⟩:=x;exact⟨k _ _ (.inl rfl) e,ih q⟩
 |tbl ps=>
  have e:h.get? a=some {cls:=.none,data:=.fields ps}:=x;show h'.get? a=some {cls:=.none,data:=.fields ps};exact k a _ (.inl rfl) e
 |met f y=>
  have e:h.get? a=some (methodObj (.ref f) (.ref y)):=x;show h'.get? a=some (methodObj (.ref f) (.ref y));exact k a _ (.inl rfl) e
 |ext φ=>obtain⟨p,⟨o,e⟩,st⟩:=x;exact⟨st _ _ p λo q=>k _ _ (.inl rfl) q,⟨o,k _ _ (.inl rfl) e⟩,st⟩
theorem HOk.lt(x:HOk P w H h)(e:H a=some o):a < h.objs.size:=(x a o e).lt
def HOk.fresh(x:HOk P w H h)(e:h.objs.size<=a):H a=none:=by
 cases q:H a with
 |none=>rfl
 |some u=>exact absurd (Nat.lt_of_lt_of_le (x.lt q) e) (Nat.lt_irrefl _)
def HOk.kept(x:HOk P w H h)(k:∀b u,h.get? b=some u->h'.get? b=some u):HOk P w H h':=λa o e=>
 (x a o e).stay (λb u _ q=>k b u q) (λ_ q=>q) λ_ _ q=>q
def HOk.laid(x:HOk P w H h)(k:∀b u,h.get? b=some u->h'.get? b=some u)(hp:h.objs.size<=a)(new:ObjOk P w (upd H a o) h' a o):HOk P w (upd H a o) h':=λb u e=>by
 have hn:=x.fresh hp
 by_cases hb:b=a
 ·subst hb;rw [Cs] at e;cases e;exact new
 ·rw [Bm hb] at e;exact(x b u e).stay (λc v _ q=>k c v q) (λc q=>by rw [Bm (Fz q hn)];exact q) λc xs q=>by rw [Bm (Fz q hn)];exact q
end
def Rd(H:Hp)(a:Addr)(u:HO):Prop:=H a=some u\/∃o,H a=some (.frz o u)
def Rd.ok{P:Program}{w:World}{H:Hp}{h:Heap}{a:Addr}{u:HO}(r:Rd H a u)(x:HOk P w H h):ObjOk P w H h a u:=by
 rcases r with r|⟨o,r⟩
 ·exact x a u r
 ·obtain⟨_,q⟩:=x a _ r;exact q
def Mut:Option HO->Prop
 |some (.lst _)=>True
 |some (.dK _)=>True
 |some (.dT _)=>True
 |some (.set _ _)=>True
 |some (.ins _ _ _)=>True
 |some (.ext _)=>True
 |_=>False
section
variable{P:Program}{w:World}{H:Hp}{h h':Heap}{x e:Addr}{o':HO}
def HOk.write(ok:HOk P w H h)(mu:Mut (H x))(he:e=x\/H e=some (.own x))(k:∀b u,b≠e->h.get? b=some u->h'.get? b=some u)(heo:∃u,h'.get? e=some u)
  (new:ObjOk P w (upd H x o') h' x o'):HOk P w (upd H x o') h':=λb u q=>by
 have df:∀c y,H c=some (.own y)->c≠x:=λc y r z=>by subst z;rw [r] at mu;exact mu
 have fw:∀c xs,H c=some (.tup xs)->c≠x:=λc xs r z=>by subst z;rw [r] at mu;exact mu
 by_cases hb:b=x
 ·subst hb;rw [Cs] at q;cases q;exact new
 ·rw [Bm hb] at q
  by_cases hbe:b=e
  ·have q':H b=some (.own x):=by
    rcases he with z|z
    ·exact absurd (hbe.trans z) hb
    ·rw [hbe];exact z
   rw [q] at q';cases q';obtain⟨v,hv⟩:=heo;exact⟨v,by rw [hbe];exact hv⟩
  ·refine(ok b u q).stay (λc v hc r=>k c v ?_ r) (λc r=>by rw [Bm (df c b r)];exact r) λc xs r=>by rw [Bm (fw c xs r)];exact r
   rcases hc with rfl|hc
   ·exact hbe
   ·rintro rfl
    rcases he with z|z
    ·exact df c b hc z
    ·rw [hc] at z;cases z;exact hb rfl
end
structure Un(fs ex:List Addr)(H H':Hp)(h h':Heap):Prop where
 keep:∀b o,h.get? b=some o->H b=none->b∉fs->b∉ex->h'.get? b=some o
 slot:∀b o,h.get? b=some o->H b=none->b∈fs->b∉ex->∃sl,h'.get? b=some {o with slots:=sl}
 free:∀b o,h.get? b=some o->H b=none->b∉ex->H' b=none
 there:∀b o,h.get? b=some o->b∉ex->∃o',h'.get? b=some o'
 tups:∀b xs,H b=some (.tup xs)->H' b=some (.tup xs)
 frzs:∀b o u,H b=some (.frz o u)->H' b=some (.frz o u)
 tbls:∀b ps,H b=some (.tbl ps)->∃more,H' b=some (.tbl (ps ++ more))
section
variable{fs fs' ex ex':List Addr}{H H1 H2:Hp}{h h1 h2 h':Heap}{a x e:Addr}{o:HO}
def Un.any(u:Un fs ex H H1 h h1){b:Addr}{ob:Obj}(q:h.get? b=some ob)(n:H b=none)(hx:b∉ex):∃sl,h1.get? b=some {ob with slots:=sl}:=by
 by_cases hb:b∈fs
 ·exact u.slot b ob q n hb hx
 ·exact⟨ob.slots,u.keep b ob q n hb hx⟩
def Un.kept(k:∀b u,h.get? b=some u->h'.get? b=some u):Un fs ex H H h h':=
 ⟨λb ob q _ _ _=>k b ob q,λb ob q _ _ _=>⟨ob.slots,k b ob q⟩,λ_ _ _ n _=>n,λb ob q _=>⟨ob,k b ob q⟩,λ_ _ q=>q,λ_ _ _ q=>q,λ_ ps q=>⟨#[],by rw [q];simp⟩⟩
def Un.refl:Un fs ex H H h h:=Un.kept λ_ _ q=>q
def Un.laid(k:∀b u,h.get? b=some u->h'.get? b=some u)(hp:h.objs.size<=a)(hn:H a=none):Un fs ex H (upd H a o) h h' where
 keep:=λb u q _ _ _=>k b u q
 slot:=λb u q _ _ _=>⟨u.slots,k b u q⟩
 free:=λb u q n _=>by rw [Bm (Nat.ne_of_lt (Nat.lt_of_lt_of_le (Heap.lt_size q) hp))];exact n
 there:=λb u q _=>⟨u,k b u q⟩
 tups:=λb xs q=>by rw [Bm (Fz q hn)];exact q
 frzs:=λb u xs q=>by rw [Bm (Fz q hn)];exact q
 tbls:=λb ps q=>⟨#[],by rw [Bm (Fz q hn),q];simp⟩
def Un.write(mu:Mut (H x))(he:e=x\/H e=some (.own x))(k:∀b u,b≠e->h.get? b=some u->h'.get? b=some u)(heo:∃u,h'.get? e=some u):Un fs ex H (upd H x o) h h':=by
 have hx:∀b,H b=none->b≠x:=λb n z=>by subst z;rw [n] at mu;exact mu
 have hb:∀b,H b=none->b≠e:=λb n z=>by
  subst z;rcases he with r|r
  ·exact hx b n r
  ·rw [n] at r;cases r
 have hm:∀b u,H b=some u->¬Mut (some u)->b≠x:=λb u q nm z=>by subst z;rw [q] at mu;exact nm mu
 refine⟨λb u q n _ _=>k b u (hb b n) q,λb u q n _ _=>⟨u.slots,k b u (hb b n) q⟩,λb u q n _=>by rw [Bm (hx b n)];exact n,λb u q _=> ?_,
  λb xs q=>by rw [Bm (hm b _ q λz=>z)];exact q,λb u xs q=>by rw [Bm (hm b _ q λz=>z)];exact q,λb ps q=>⟨#[],by rw [Bm (hm b _ q λz=>z),q];simp⟩⟩
 by_cases hbe:b=e
 ·subst hbe;exact heo
 ·exact⟨u,k b u hbe q⟩
end
def trk(h:Heap)(H:Hp):List Addr:=(List.range h.objs.size).filter λa=>(H a).isSome
def hidT(h:Heap)(H:Hp):Heap:=hideAll h (trk h H)
def cu_3(h:Heap)(H:Hp):(hidT h H).objs.size=h.objs.size:=hideAll_size _ _
def da_6{h:Heap}{H:Hp}{b:Addr}{o:Obj}(e:h.get? b=some o)(n:H b=none):(hidT h H).get? b=some o:=
 hideAll_get _ e λhm=>by
  have q:(H b).isSome=true:=(List.mem_filter.mp hm).2;rw [n] at q;simp at q
def dm_4{h:Heap}{H:Hp}{b:Addr}{o:Obj}(e:(hidT h H).get? b=some o):h.get? b=some o/\H b=none:=by
 have e':h.get? b=some o:=of_hideAll (trk h H) e;refine⟨e', ?_⟩;cases q:H b with
 |none=>rfl
 |some x=>
  have hm:b∈trk h H:=List.mem_filter.mpr ⟨List.mem_range.mpr (Heap.lt_size e'),by simp [q]⟩;have z:(hidT h H).get? b=none:=hideAll_none (trk h H) hm;rw [z] at e;cases e
structure Mod(K:Frag)(mg:Str->Option Value)(base:Heap):Prop where
 kin:K.In base
 glob:base.Ns mainGlobals mg
 blt:∃mb,base.Ns builtinsNs mb/\∀x:Str,x≠ "__name__" ->mb x=bootBuiltins x
 nolimit:base.NoLimit
structure Cx where
 prog:Program
 w:World
 K:Frag
 mg:Str->Option Value
 base:Heap
 A:Around
 N:List Str
 s₀:Shared
 H₀:Hp
 env:Env
 outer:List Env
 stack:List Env
 ex:List Addr
 fn:Str->Bool
 calm:Bool
 pn:List (Addr×Obj)
 xe:Value->Shared->Prop
def frs(l:List Env):List Addr:=l.filterMap (·.frame)
abbrev Cx.fs(X:Cx):List Addr:=frs X.outer
def Vis(sc:Scope)(x:Str):Prop:=sc.names.lookup x=some .local\/sc.names.lookup x=some .cell\/sc.names.lookup x=some .free
def Loc(sc:Scope)(x:Str):Prop:=sc.names.lookup x=some .local\/sc.names.lookup x=some .cell
def Look(env:Env)(h:Heap)(m:Str->Option Value)(x:Str)(u:Value):Prop:=
 (env.kindOf x=some .local/\m x=some u)\/((env.kindOf x=some .cell\/env.kindOf x=some .free)/\∃c,env.cells.lookup x=some c/\h.IsCell c (some u))
structure Cx.Ok(X:Cx):Prop where
 mod:Mod X.K X.mg X.base
 kind:X.env.scope.kind=.function
 glob:X.env.globals=mainGlobals
 blt:X.env.builtins=builtinsNs
 above:X.s₀.heap.objs.size<=X.env.locals
 inj:∀x y c,X.env.cells.lookup x=some c->X.env.cells.lookup y=some c->x=y
 has:∀x,(X.env.kindOf x=some .cell\/X.env.kindOf x=some .free)->∃c,X.env.cells.lookup x=some c
 cab:∀x c,X.fn x=true->X.env.cells.lookup x=some c->X.s₀.heap.objs.size<=c
 hd:X.calm=true->X.A.handled=none
 frames:X.A.frames=some X.stack
 stk:X.stack=X.outer\/(X.stack=X.env::X.outer/\X.env.frame=some X.env.locals)
 exf:∀b∈X.ex,b≠X.env.locals/\∀x c,X.env.cells.lookup x=some c->c≠b
 bs:∀b o,X.base.get? b=some o->X.s₀.heap.get? b=some o/\X.H₀ b=none
 bsz:X.base.objs.size<=X.s₀.heap.objs.size
 noex:∀b o,X.base.get? b=some o->b∉X.ex
 exfs:∀b∈X.ex,b∉X.fs
 funs:X.s₀.heap.FunFrames X.base X.outer
 frf:∀b∈X.fs,X.H₀ b=none
structure Inv(X:Cx)(zd:List (Addr×Obj))(σ:List (Option V))(H:Hp)(s:Shared):Prop where
 ok:X.Ok
 os:s.os=X.s₀.os
 bare:AllBare s.gens
 base:Un X.fs X.ex X.H₀ H X.s₀.heap s.heap
 loc:∃m,s.heap.Ns X.env.locals m/\∀(i:Nat) (x:Str) (v:V),X.N[i]? =some x->σ[i]? =some (some v)->Vis X.env.scope x->∃u,RelV v u/\Look X.env s.heap m x u
 cell:∀x c,X.env.cells.lookup x=some c->∃v,s.heap.IsCell c v
 free:H X.env.locals=none
 freeC:∀x c,X.env.cells.lookup x=some c->H c=none
 pin:∀p∈X.pn ++ zd,s.heap.get? p.1=some p.2/\H p.1=none/\p.1≠X.env.locals/\p.1∉X.fs/\∀v,p.2.data≠ .cell v
 hok:HOk X.prog X.w H s.heap
 len:σ.length=X.N.length
section
variable{X:Cx}{zd:List (Addr×Obj)}{σ:List (Option V)}{H H':Hp}{s:Shared}{h':Heap}
def Cx.Ok.nofr(ok:X.Ok){b:Addr}{o:Obj}(e:X.base.get? b=some o):b∉X.fs:=λhb=>by
 have:=(ok.funs.mem hb).1;rw [e] at this;cases this
theorem Inv.bs(I:Inv X zd σ H s):∀b o,X.base.get? b=some o->s.heap.get? b=some o/\H b=none:=λb o e=>
 ⟨I.base.keep b o (I.ok.bs b o e).1 (I.ok.bs b o e).2 (I.ok.nofr e) (I.ok.noex b o e),I.base.free b o (I.ok.bs b o e).1 (I.ok.bs b o e).2 (I.ok.noex b o e)⟩
def Inv.bk(I:Inv X zd σ H s):∀b o,X.base.get? b=some o->s.heap.get? b=some o:=λb o e=>(I.bs b o e).1
theorem Inv.mod(I:Inv X zd σ H s):Mod X.K X.mg X.base:=I.ok.mod
def Inv.kIn(I:Inv X zd σ H s):X.K.In s.heap:=I.ok.mod.kin.keeps I.bk
theorem Inv.nolimit(I:Inv X zd σ H s):s.heap.NoLimit:=I.ok.mod.nolimit.keeps I.bk
def Inv.fr(I:Inv X zd σ H s):∃m,Fr X.base X.env.locals s.heap m:=
 let⟨m,hn,_⟩:=I.loc
 ⟨m,hn,I.bk,Nat.le_trans I.ok.bsz I.ok.above⟩
theorem Inv.lt(I:Inv X zd σ H s):X.env.locals < s.heap.objs.size:=let⟨_,hn,_⟩:=I.loc;hn.lt
def Inv.sz(I:Inv X zd σ H s):X.s₀.heap.objs.size<=s.heap.objs.size:=Nat.le_trans I.ok.above (Nat.le_of_lt I.lt)
def Inv.nofs(I:Inv X zd σ H s){a:Addr}(h:s.heap.objs.size<=a):a∉X.fs:=λhb=>by
 obtain⟨_,o,ho,_⟩:=I.ok.funs.mem hb;exact absurd (Nat.lt_of_lt_of_le (Heap.lt_size ho) (Nat.le_trans I.sz h)) (Nat.lt_irrefl _)
def Inv.cne(I:Inv X zd σ H s):∀x c,X.env.cells.lookup x=some c->c≠X.env.locals:=λx c e z=>by
 obtain⟨v,o,ho,hd⟩:=I.cell x c e;obtain⟨m,⟨o',es,ep,ho',hd',_⟩,_⟩:=I.loc;rw [z,ho'] at ho;cases ho;rw [hd'] at hd;cases hd
theorem Inv.funs(I:Inv X zd σ H s):s.heap.FunFrames X.base X.outer:=by
 have all:∀(l:List Env),(∀b∈frs l,b∈X.fs)->X.s₀.heap.FunFrames X.base l->s.heap.FunFrames X.base l:=by
  intro l
  induction l with
  |nil=>intro _ _;trivial
  |cons env r ih=>
   intro hs hl;obtain⟨hk,⟨L,o,hf,hn,ho,hd⟩,hr⟩:=hl;have hL:L∈X.fs:=hs L (by unfold frs;rw [List.filterMap_cons,hf];exact List.mem_cons_self);obtain⟨sl,e⟩:=I.base.slot L o ho (I.ok.frf L hL) hL λz=>I.ok.exfs L z hL;exact⟨hk,⟨L,_,hf,hn,e,hd⟩,ih (λb hb=>hs b (by unfold frs;rw [List.filterMap_cons,hf];exact List.mem_cons_of_mem _ hb)) hr⟩
 exact all X.outer (λ_ hb=>hb) I.ok.funs
theorem Inv.stack(I:Inv X zd σ H s):s.heap.FunFrames X.base X.stack:=by
 rcases I.ok.stk with e|⟨e,hf⟩
 ·rw [e];exact I.funs
 ·rw [e];obtain⟨m,hn,_⟩:=I.loc;refine .cons (by rw [I.ok.kind];decide) hf hn ?_ I.funs;exact Heap.get?_none_of_le (Nat.le_trans I.ok.bsz I.ok.above)
def Inv.stkSub(I:Inv X zd σ H s):∀b∈frs X.stack,b∈X.env.locals::X.fs:=λb hb=>by
 rcases I.ok.stk with e|⟨e,hf⟩
 ·rw [e] at hb;exact List.mem_cons_of_mem _ hb
 ·rw [e] at hb;unfold frs at hb;rw [List.filterMap_cons,hf] at hb;exact hb
def Inv.stkFree(I:Inv X zd σ H s):∀b∈frs X.stack,H b=none:=λb hb=>by
 rcases List.mem_cons.mp (I.stkSub b hb) with e|hb
 ·rw [e];exact I.free
 ·obtain⟨_,o,ho,_⟩:=I.ok.funs.mem hb;exact I.base.free b o ho (I.ok.frf b hb) λz=>I.ok.exfs b z hb
def Inv.step{g':Array GenState}{t':Nat}{d':Drawn}{ch:List Addr}(I:Inv X zd σ H s)
  (hch:∀b∈ch,(b∈X.ex\/X.s₀.heap.objs.size<=b)/\b≠X.env.locals/\(∀x c,X.env.cells.lookup x=some c->c≠b)/\∀p∈X.pn ++ zd,p.1≠b)
  (keep:∀b o,b≠X.env.locals->b∉X.fs->b∉ch->s.heap.get? b=some o->H b=none->h'.get? b=some o)
  (slot:∀b o,b≠X.env.locals->b∈X.fs->b∉ch->s.heap.get? b=some o->H b=none->∃sl,h'.get? b=some {o with slots:=sl}) (free:∀b o,b∉ch->s.heap.get? b=some o->H b=none->H' b=none)
  (there:∀b o,b∉ch->s.heap.get? b=some o->∃o',h'.get? b=some o')
  (tups:∀b xs,H b=some (.tup xs)->H' b=some (.tup xs)) (frzs:∀b o u,H b=some (.frz o u)->H' b=some (.frz o u)) (tbls:∀b ps,H b=some (.tbl ps)->∃more,H' b=some (.tbl (ps ++ more)))
  (ns:∀m,s.heap.Ns X.env.locals m->h'.Ns X.env.locals m) (hok:HOk X.prog X.w H' h') (hg:AllBare g'):
  Inv X zd σ H' {s with heap:=h',gens:=g',drawn:=d',toks:=t'}:=by
 have neL:∀b o,X.s₀.heap.get? b=some o->b≠X.env.locals:=λb o e=>Nat.ne_of_lt (Nat.lt_of_lt_of_le (Heap.lt_size e) I.ok.above);have neC:∀b o,X.s₀.heap.get? b=some o->b∉X.ex->b∉ch:=λb o e hx hb=>by
  rcases(hch b hb).1 with z|z
  ·exact hx z
  ·exact absurd (Nat.lt_of_lt_of_le (Heap.lt_size e) z) (Nat.lt_irrefl _)
 have cellK:∀x c,X.env.cells.lookup x=some c->∀v,s.heap.IsCell c v->h'.IsCell c v:=λx c e v ⟨o,ho,hd⟩=>by
  have nch:c∉ch:=λz=>(hch c z).2.2.1 x c e rfl
  by_cases hc:c∈X.fs
  ·obtain⟨sl,q⟩:=slot c o (I.cne x c e) hc nch ho (I.freeC x c e);exact⟨_,q,hd⟩
  ·exact⟨o,keep c o (I.cne x c e) hc nch ho (I.freeC x c e),hd⟩
 refine⟨I.ok,I.os,hg,⟨λb o e n hb hx=> ?_,λb o e n hb hx=> ?_,λb o e n hx=> ?_,λb o e hx=> ?_,λb xs e=>tups b xs (I.base.tups b xs e),λb o xs e=>frzs b o xs (I.base.frzs b o xs e),λb ps e=> ?_⟩, ?_,λx c e=> ?_, ?_,λx c e=> ?_,λp hp=> ?_,hok,I.len⟩
 ·exact keep b o (neL b o e) hb (neC b o e hx) (I.base.keep b o e n hb hx) (I.base.free b o e n hx)
 ·obtain⟨sl,e1⟩:=I.base.slot b o e n hb hx;obtain⟨sl',e2⟩:=slot b _ (neL b o e) hb (neC b o e hx) e1 (I.base.free b o e n hx);exact⟨sl',e2⟩
 ·obtain⟨o',e1⟩:=I.base.there b o e hx;exact free b o' (neC b o e hx) e1 (I.base.free b o e n hx)
 ·obtain⟨o',e1⟩:=I.base.there b o e hx;exact there b o' (neC b o e hx) e1
 ·obtain⟨m1,e1⟩:=I.base.tbls b ps e;obtain⟨m2,e2⟩:=tbls b _ e1;exact⟨m1 ++ m2,by rw [e2,Array.append_assoc]⟩
 ·obtain⟨m,hn,hl⟩:=I.loc;refine⟨m,ns m hn,λi x v e1 e2 e3=> ?_⟩;obtain⟨u,r,l⟩:=hl i x v e1 e2 e3;refine⟨u,r, ?_⟩;rcases l with l|⟨k,c,e,z⟩
  ·exact .inl l
  ·exact .inr ⟨k,c,e,cellK x c e _ z⟩
 ·obtain⟨v,z⟩:=I.cell x c e;exact⟨v,cellK x c e v z⟩
 ·obtain⟨m,⟨o,_,_,ho,_⟩,_⟩:=I.loc;exact free _ o (λz=>(hch _ z).2.1 rfl) ho I.free
 ·obtain⟨v,o,ho,hd⟩:=I.cell x c e;exact free c o (λz=>(hch c z).2.2.1 x c e rfl) ho (I.freeC x c e)
 ·obtain⟨e,n,ne,nf,d⟩:=I.pin p hp;have nch:p.1∉ch:=λz=>(hch p.1 z).2.2.2 p hp rfl;exact⟨keep p.1 p.2 ne nf nch e n,free p.1 p.2 nch e n,ne,nf,d⟩
def Inv.un{t':Nat}(I:Inv X zd σ H s)(u:Un X.fs [] H H' s.heap h')(hok:HOk X.prog X.w H' h'):Inv X zd σ H' {s with heap:=h',toks:=t'}:=by
 obtain⟨m,⟨o,es,ep,ho,r⟩,_⟩:=id I.loc;obtain⟨sl,hL⟩:=u.any ho I.free (by simp);exact I.step (g':=s.gens) (d':=s.drawn) (ch:=[]) (λ_ z=>nomatch z) (λb o _ hb _ e n=>u.keep b o e n hb (by simp)) (λb o _ hb _ e n=>u.slot b o e n hb (by simp)) (λb o _ e n=>u.free b o e n (by simp)) (λb o _ e=>u.there b o e (by simp)) u.tups u.frzs u.tbls (λm' hm=>by
  obtain⟨o',es',ep',ho',r'⟩:=hm;rw [ho] at ho';cases ho';exact⟨_,es',ep',hL,r'⟩) hok I.bare
def Inv.call{g':Array GenState}{t':Nat}{d':Drawn}{ch:List Addr}(I:Inv X zd σ H s)(u:Un (frs X.stack) ch H H' s.heap h')(hok:HOk X.prog X.w H' h')(hg:AllBare g')
  (hch:∀b∈ch,(b∈X.ex\/X.s₀.heap.objs.size<=b)/\b≠X.env.locals/\(∀x c,X.env.cells.lookup x=some c->c≠b)/\∀p∈X.pn ++ zd,p.1≠b):
  Inv X zd σ H' {s with heap:=h',gens:=g',drawn:=d',toks:=t'}:=by
 obtain⟨m,⟨o,es,ep,ho,r⟩,_⟩:=id I.loc;obtain⟨sl,hL⟩:=u.any ho I.free λz=>(hch _ z).2.1 rfl;exact I.step (ch:=ch) hch (λb o hL hb hc e n=>u.keep b o e n (λz=>(List.mem_cons.mp (I.stkSub b z)).elim hL hb) hc) (λb o _ _ hc e n=>u.any e n hc) (λb o hc e n=>u.free b o e n hc) (λb o hc e=>u.there b o e hc) u.tups u.frzs u.tbls (λm' hm=>by
  obtain⟨o',es',ep',ho',r'⟩:=hm;rw [ho] at ho';cases ho';exact⟨_,es',ep',hL,r'⟩) hok hg
def Inv.turned{t':Nat}{it:Addr}(I:Inv X zd σ H s)(k:∀b o,b≠it->s.heap.get? b=some o->h'.get? b=some o)(hn:H it=none)(hL:it≠X.env.locals)
  (h1:it∈X.ex\/X.s₀.heap.objs.size<=it) (h2:∀x c,X.env.cells.lookup x=some c->c≠it) (h3:∀p∈X.pn ++ zd,p.1≠it):Inv X zd σ H {s with heap:=h',toks:=t'}:=by
 have nit:∀b u,H b=some u->b≠it:=λb u e z=>by rw [z,hn] at e;cases e
 refine I.step (g':=s.gens) (d':=s.drawn) (ch:=[it]) (λb hb=> ?_) (λb o _ _ hc e _=>k b o (λz=>hc (by simp [z])) e) (λb o _ _ hc e _=>⟨o.slots,k b o (λz=>hc (by simp [z])) e⟩) (λ_ _ _ _ n=>n)
  (λb o hc e=>⟨o,k b o (λz=>hc (by simp [z])) e⟩) (λ_ _ e=>e) (λ_ _ _ e=>e) (λb ps e=>⟨#[],by rw [e];simp⟩) (λm hm=> ?_) (λb u e=> ?_) I.bare
 ·have e:b=it:=by simpa using hb
  subst e;exact⟨h1,hL,h2,h3⟩
 ·obtain⟨o,es,ep,ho,r⟩:=hm;exact⟨o,es,ep,k _ o (Ne.symm hL) ho,r⟩
 ·refine(I.hok b u e).stay (λc v hc q=>k c v ?_ q) (λ_ q=>q) λ_ _ q=>q;rcases hc with z|z
  ·rw [z];exact nit b u e
  ·exact nit c _ z
def Inv.tok(I:Inv X zd σ H s)(t:Nat):Inv X zd σ H {s with toks:=t}:=I.un (h':=s.heap) (t':=t) Un.refl I.hok
theorem Inv.kept{t':Nat}(I:Inv X zd σ H s)(k:∀b u,s.heap.get? b=some u->h'.get? b=some u):Inv X zd σ H {s with heap:=h',toks:=t'}:=I.un (Un.kept k) (I.hok.kept k)
theorem Inv.laid{a:Addr}{o:HO}{t':Nat}(I:Inv X zd σ H s)(k:∀b u,s.heap.get? b=some u->h'.get? b=some u)(hp:s.heap.objs.size<=a)(new:ObjOk X.prog X.w (upd H a o) h' a o):
  Inv X zd σ (upd H a o) {s with heap:=h',toks:=t'}:=I.un (Un.laid k hp (I.hok.fresh hp)) (I.hok.laid k hp new)
theorem Inv.write{x e:Addr}{o:HO}{t':Nat}(I:Inv X zd σ H s)(mu:Mut (H x))(he:e=x\/H e=some (.own x))(k:∀b u,b≠e->s.heap.get? b=some u->h'.get? b=some u)(heo:∃u,h'.get? e=some u)
  (new:ObjOk X.prog X.w (upd H x o) h' x o):Inv X zd σ (upd H x o) {s with heap:=h',toks:=t'}:=I.un (Un.write mu he k heo) (I.hok.write mu he k heo new)
def Inv.pins_of{ak:List (Addr×Obj)}(I:Inv X zd σ H s)(h:∀p∈ak,s.heap.get? p.1=some p.2/\H p.1=none/\p.1≠X.env.locals/\p.1∉X.fs/\∀v,p.2.data≠ .cell v):Inv X ak σ H s:=
 ⟨I.ok,I.os,I.bare,I.base,I.loc,I.cell,I.free,I.freeC,λp hp=>(List.mem_append.mp hp).elim (λz=>I.pin p (List.mem_append_left _ z)) (h p),I.hok,I.len⟩
def bc_4{N:List Str}(hN:N.Nodup){i j:Nat}{x:Str}(a:N[i]? =some x)(b:N[j]? =some x):i=j:=by
 obtain⟨h1,e1⟩:=List.getElem?_eq_some_iff.mp a;obtain⟨h2,e2⟩:=List.getElem?_eq_some_iff.mp b;exact(List.getElem_inj hN).mp (e1.trans e2.symm)
def bl_5{M:Model}{A:Around}{E:Value->Shared->Prop}{i:Nat}{x:Str}{v:V}{u:Value}{Q:Unit->Shared->Prop}(I:Inv X zd σ H s)(hN:X.N.Nodup)(hi:X.N[i]? =some x)(hx:Loc X.env.scope x)(r:RelV v u)
  (h:∀s',Inv X zd (σ.set i (some v)) H s'->(∃a,Heap.SameBut a s.heap s'.heap/\(a=X.env.locals\/X.env.cells.lookup x=some a))->Q () s') (hf:X.fn x=true\/X.env.scope.names.lookup x=some .local:=by first|exact .inl rfl|exact .inr rfl|assumption):wpAny M A (storeName X.env x u) Q E s:=by
 obtain⟨m,hn,hl⟩:=id I.loc;have bu:(X.env.scope.kind == .class || (X.env.scope.kind == .module && X.env.locals != X.env.globals))=false:=by rw [I.ok.kind];rfl
 have hiσ:i < σ.length:=by rw [I.len];exact(List.getElem?_eq_some_iff.mp hi).1
 have cne:=I.cne;have tracked:∀{a:Addr} {h':Heap},(∃o,s.heap.get? a=some o/\H a=none)->Heap.SameBut a s.heap h'->HOk X.prog X.w H h':=λ{a h'} ha hs b ob e=>by
  obtain⟨_,_,ao⟩:=ha;refine(I.hok b ob e).stay (λc w' hc q=>(hs.2 c ?_).trans q) (λ_ q=>q) λ_ _ q=>q
  rintro rfl
  rcases hc with rfl|hc
  ·rw [ao] at e;cases e
  ·rw [ao] at hc;cases hc
 rcases hx with hk|hk
 ·refine wpAny_storeName_local hk hn (λh' hn' hs=> ?_) bu;obtain⟨oL,_,_,hoL,_⟩:=id hn;refine h _ ⟨I.ok,I.os,I.bare,⟨λb o e n hb hx=> ?_,λb o e n hb hx=> ?_,I.base.free,λb o e hx=> ?_,I.base.tups,I.base.frzs,I.base.tbls⟩,⟨_,hn',λj y v' e1 e2 e3=> ?_⟩,λy c e=> ?_,I.free,I.freeC,λp hp=> ?_,tracked ⟨oL,hoL,I.free⟩ hs,by simpa using I.len⟩ ⟨_,hs,.inl rfl⟩
  ·exact(hs.2 b (Nat.ne_of_lt (Nat.lt_of_lt_of_le (Heap.lt_size e) I.ok.above))).trans (I.base.keep b o e n hb hx)
  ·obtain⟨sl,e1⟩:=I.base.slot b o e n hb hx;exact⟨sl,(hs.2 b (Nat.ne_of_lt (Nat.lt_of_lt_of_le (Heap.lt_size e) I.ok.above))).trans e1⟩
  ·obtain⟨o',e1⟩:=I.base.there b o e hx;exact⟨o',(hs.2 b (Nat.ne_of_lt (Nat.lt_of_lt_of_le (Heap.lt_size e) I.ok.above))).trans e1⟩
  ·by_cases hj:j=i
   ·subst hj;rw [hi] at e1;cases e1;rw [List.getElem?_set_self hiσ] at e2;cases e2;exact⟨u,r,.inl ⟨hk,by simp⟩⟩
   ·rw [List.getElem?_set_ne (Ne.symm hj)] at e2;obtain⟨u',r',q⟩:=hl j y v' e1 e2 e3;refine⟨u',r', ?_⟩;rcases q with⟨k,e⟩|⟨k,c,e,z⟩
    ·refine .inl ⟨k, ?_⟩;have:y≠x:=λe=>hj (bc_4 hN e1 (e▸hi));simp [this,e]
    ·exact .inr ⟨k,c,e,z.sameBut hs (cne y c e)⟩
  ·obtain⟨w',z⟩:=I.cell y c e;exact⟨w',z.sameBut hs (cne y c e)⟩
  ·obtain⟨e,n,ne,nf,d⟩:=I.pin p hp;exact⟨(hs.2 p.1 ne).trans e,n,ne,nf,d⟩
 ·have hfn:X.fn x=true:=by
   rcases hf with z|z
   ·exact z
   ·rw [z] at hk;cases hk
  obtain⟨c,hc⟩:=I.ok.has x (.inl hk);obtain⟨w',z⟩:=I.cell x c hc;refine wpAny_storeName_cell I.ok.kind hk hc z (λh' hc' hs=> ?_);obtain⟨oc,hoc,di⟩:=id z;refine h {s with heap:=h'} ⟨I.ok,I.os,I.bare,⟨λb o e n hb hx=> ?_,λb o e n hb hx=> ?_,I.base.free,λb o e hx=> ?_,I.base.tups,I.base.frzs,I.base.tbls⟩,⟨m,hn.sameBut hs (Ne.symm (cne x c hc)),λj y v' e1 e2 e3=> ?_⟩,λy c' e=> ?_,I.free,I.freeC,λp hp=> ?_,tracked ⟨oc,hoc,I.freeC x c hc⟩ hs,by simpa using I.len⟩ ⟨c,hs,.inr hc⟩
  ·exact(hs.2 b (Nat.ne_of_lt (Nat.lt_of_lt_of_le (Heap.lt_size e) (I.ok.cab x c hfn hc)))).trans (I.base.keep b o e n hb hx)
  ·obtain⟨sl,e1⟩:=I.base.slot b o e n hb hx;exact⟨sl,(hs.2 b (Nat.ne_of_lt (Nat.lt_of_lt_of_le (Heap.lt_size e) (I.ok.cab x c hfn hc)))).trans e1⟩
  ·obtain⟨o',e1⟩:=I.base.there b o e hx;exact⟨o',(hs.2 b (Nat.ne_of_lt (Nat.lt_of_lt_of_le (Heap.lt_size e) (I.ok.cab x c hfn hc)))).trans e1⟩
  ·by_cases hj:j=i
   ·subst hj;rw [hi] at e1;cases e1;rw [List.getElem?_set_self hiσ] at e2;cases e2;exact⟨u,r,.inr ⟨.inl hk,c,hc,hc'⟩⟩
   ·rw [List.getElem?_set_ne (Ne.symm hj)] at e2;obtain⟨u',r',q⟩:=hl j y v' e1 e2 e3;refine⟨u',r', ?_⟩;rcases q with q|⟨k,c',e,z'⟩
    ·exact .inl q
    ·refine .inr ⟨k,c',e,z'.sameBut hs ?_⟩
     rintro rfl
     exact hj (bc_4 hN e1 (I.ok.inj _ _ _ e hc▸hi))
  ·by_cases hcc:c'=c
   ·subst hcc;exact⟨_,hc'⟩
   ·obtain⟨w2,z2⟩:=I.cell y c' e;exact⟨w2,z2.sameBut hs hcc⟩
  ·obtain⟨e,n,ne,nf,d⟩:=I.pin p hp;refine⟨(hs.2 p.1 ?_).trans e,n,ne,nf,d⟩;intro q;rw [q,hoc] at e;have q':oc=p.2:=Option.some.inj e;exact d w' (by rw [<-q'];exact di)
def bc_5{M:Model}{A:Around}{E:Value->Shared->Prop}{i:Nat}{x:Str}{v:V}{u:Value}{Q:Unit->Shared->Prop}(I:Inv X zd σ H s)(hN:X.N.Nodup)(hi:X.N[i]? =some x)(hx:Loc X.env.scope x)(r:RelV v u)
  (h:∀s',Inv X zd (σ.set i (some v)) H s'->Q () s') (hf:X.fn x=true\/X.env.scope.names.lookup x=some .local:=by first|exact .inl rfl|exact .inr rfl|assumption):wpAny M A (storeName X.env x u) Q E s:=
 bl_5 I hN hi hx r (λs' I' _=>h s' I') hf
def Inv.call'{s':Shared}{ch:List Addr}(I:Inv X zd σ H s)(ho:s'.os=s.os)(u:Un (frs X.stack) ch H H' s.heap s'.heap)(hok:HOk X.prog X.w H' s'.heap)(hg:AllBare s'.gens)
  (hch:∀b∈ch,(b∈X.ex\/X.s₀.heap.objs.size<=b)/\b≠X.env.locals/\(∀x c,X.env.cells.lookup x=some c->c≠b)/\∀p∈X.pn ++ zd,p.1≠b):Inv X zd σ H' s':=by
 obtain⟨h',g',d',t',o'⟩:=s';have e:o'=s.os:=ho;subst e;exact I.call (g':=g') (t':=t') (d':=d') u hok hg hch
end
abbrev XK:=Value->Option Addr->Hp->Prop
abbrev St:=List (Option V)
abbrev VK:=V->Hp->Prop
abbrev TE:=St->Hp->VK->Prop
abbrev TT:=St->Hp->(Bool->Hp->Prop)->Prop
abbrev TA:=St->Hp->(List V->Hp->Prop)->Prop
structure Ends where
 nx:St->Hp->Prop
 rt:VK
 bk:St->Hp->Prop:=λ_ _=>False
 ct:St->Hp->Prop:=λ_ _=>False
abbrev TS:=Ends->St->Hp->Prop
def EP(X:Cx)(zd:List (Addr×Obj))(σ:St)(Q:VK)(u:Value)(s':Shared):Prop:=∃v H',Inv X zd σ H' s'/\RelV v u/\Q v H'
def TP(X:Cx)(zd:List (Addr×Obj))(σ:St)(Q:Bool->Hp->Prop)(b:Bool)(s':Shared):Prop:=∃H',Inv X zd σ H' s'/\Q b H'
def AP(X:Cx)(zd:List (Addr×Obj))(σ:St)(Q:List V->Hp->Prop)(us:List Value)(s':Shared):Prop:=∃vs H',Inv X zd σ H' s'/\Vals vs us/\Q vs H'
def SP(X:Cx)(zd:List (Addr×Obj))(D:Ends)(f:Flow)(s':Shared):Prop:=
 match f with
 | .next=>∃σ' H',Inv X zd σ' H' s'/\D.nx σ' H'
 | .brk=>∃σ' H',Inv X zd σ' H' s'/\D.bk σ' H'
 | .cont=>∃σ' H',Inv X zd σ' H' s'/\D.ct σ' H'
 | .ret u=>∃v σ' H',Inv X zd σ' H' s'/\RelV v u/\D.rt v H'
def PE(X:Cx)(e:Expr)(t:TE):Prop:=
 ∀(zd:List (Addr×Obj)) (s:Shared) (σ:St) (H:Hp) (Q:VK),Inv X zd σ H s->t σ H Q->wpAny (model X.prog X.w) X.A (eval e X.env) (EP X zd σ Q) X.xe s
def PT(X:Cx)(e:Expr)(t:TT):Prop:=
 ∀(zd:List (Addr×Obj)) (s:Shared) (σ:St) (H:Hp) (Q:Bool->Hp->Prop),Inv X zd σ H s->t σ H Q->wpAny (model X.prog X.w) X.A (isTrue e X.env (eval e X.env)) (TP X zd σ Q) X.xe s
def PW(X:Cx)(e:Expr)(t:TT):Prop:=
 ∀(whole:Sem Value) (zd:List (Addr×Obj)) (s:Shared) (σ:St) (H:Hp) (Q:Bool->Hp->Prop),Inv X zd σ H s->t σ H Q->wpAny (model X.prog X.w) X.A (isTrue e X.env whole) (TP X zd σ Q) X.xe s
def PW.pt{X:Cx}{e:Expr}{t:TT}(h:PW X e t):PT X e t:=h _
def PA(X:Cx)(es:List Expr)(t:TA):Prop:=
 ∀(pos:Pos) (zd:List (Addr×Obj)) (s:Shared) (σ:St) (H:Hp) (Q:List V->Hp->Prop),Inv X zd σ H s->t σ H Q->wpAny (model X.prog X.w) X.A (spliced (backTo pos (starEach es X.env))) (AP X zd σ Q) X.xe s
def PS(X:Cx)(st:Stmt)(t:TS):Prop:=
 ∀(zd:List (Addr×Obj)) (s:Shared) (σ:St) (H:Hp) (D:Ends),Inv X zd σ H s->t D σ H->wpAny (model X.prog X.w) X.A (exec st X.env) (SP X zd D) X.xe s
def PSs(X:Cx)(st:List Stmt)(t:TS):Prop:=
 ∀(zd:List (Addr×Obj)) (s:Shared) (σ:St) (H:Hp) (D:Ends),Inv X zd σ H s->t D σ H->wpAny (model X.prog X.w) X.A (execs st X.env) (SP X zd D) X.xe s
def Bi{α:Type}{t:Sem α}{Q Q':α->Shared->Prop}{M:Model}{A:Around}{E:Value->Shared->Prop}{s:Shared}(h:wpAny M A t Q E s)(hQ:∀a s,Q a s->Q' a s):wpAny M A t Q' E s:=wpAny_mono h hQ λ_ _ x=>x
section
variable{X:Cx}
def tVar(i:Nat):TE:=λ σ H Q=>∃v,σ[i]? =some (some v)/\Q v H
def tC(v:V):TE:=λ_ H Q=>Q v H
def Fe{i:Nat}{x:Str}{pos:Pos}(hN:X.N[i]? =some x)(hv:Vis X.env.scope x)(hd:(x ==("__debug__" :Str))=false:=by decide)(hcd:(x ==("__classdict__" :Str))=false:=by decide):PE X (.Name x pos) (tVar i):=by
 intro zd s σ H Q I h;obtain⟨v,e,h⟩:=h;obtain⟨m,hn,hl⟩:=I.loc;obtain⟨u,r,l⟩:=hl i x v hN e hv;have fin:EP X zd σ Q u s:=⟨v,H,I,r,h⟩;rcases l with⟨hk,hm⟩|⟨hk,c,hc,hcell⟩
 ·exact wpAny_Name (wpAny_loadName_local I.ok.kind hk hn hm fin) hd
 ·rcases hk with hk|hk
  ·exact wpAny_Name (wpAny_loadName_cell I.ok.kind hk hc hcell fin) hd
  ·exact wpAny_Name (wpAny_loadName_free I.ok.kind hk hc hcell fin hcd) hd
def dx_5{i j pos}:PE X (.Constant (.int i) j pos) (tC (.int i)):=λ_ _ _ H _ I h=>wpAny_Constant_int ⟨.int i,H,I.tok _,⟨_,rfl⟩,h⟩
def ef_3{b j pos}:PE X (.Constant (.bool b) j pos) (tC (.bl b)):=λ_ _ _ H _ I h=>Constant_bool ⟨.bl b,H,I,rfl,h⟩
def da_7{j pos}:PE X (.Constant .none j pos) (tC .non):=λ_ _ _ H _ I h=>Constant_none ⟨.non,H,I,rfl,h⟩
def dx_6{x j pos}:PE X (.Constant (.str x) j pos) (tC (.str x)):=λ_ _ _ H _ I h=>Calls.Constant_str ⟨.str x,H,I.tok _,⟨_,rfl⟩,h⟩
def Gl(X:Cx)(x:Str):Prop:=X.env.kindOf x=some .globalImplicit
def w_9{E:Value->Shared->Prop}{zd:List (Addr×Obj)}{s:Shared}{σ:St}{H:Hp}{x:Str}{u:Value}{pos:Pos}{Q:Value->Shared->Prop}(I:Inv X zd σ H s)(hg:Gl X x)(hm:X.mg x=some u)(h:Q u s)
  (hd:(x ==("__debug__" :Str))=false:=by decide):wpAny (model X.prog X.w) X.A (eval (.Name x pos) X.env) Q E s:=
 Calls.Name_function_global I.ok.kind hg (Calls.loadGlobal_global (by rw [I.ok.glob];exact I.mod.glob.keeps I.bk) hm h) hd
def ah_3{E:Value->Shared->Prop}{zd:List (Addr×Obj)}{s:Shared}{σ:St}{H:Hp}{x:Str}{u:Value}{pos:Pos}{Q:Value->Shared->Prop}(I:Inv X zd σ H s)(hg:Gl X x)(hm:X.mg x=none)(hv:bootBuiltins x=some u)(h:Q u s)
  (hn:x≠ "__name__" :=by decide) (hd:(x ==("__debug__" :Str))=false:=by decide):wpAny (model X.prog X.w) X.A (eval (.Name x pos) X.env) Q E s:=by
 obtain⟨mb,h1,h2⟩:=I.mod.blt;exact Calls.Name_function_global I.ok.kind hg (Calls.loadGlobal_builtin (by rw [I.ok.glob];exact I.mod.glob.keeps I.bk) hm (by rw [I.ok.blt];exact h1.keeps I.bk) ((h2 x hn).trans hv) h) hd
def br_0{x:Str}{v:V}{u:Value}{pos:Pos}(hg:Gl X x)(hm:X.mg x=some u)(r:RelV v u)(hd:(x ==("__debug__" :Str))=false:=by decide):PE X (.Name x pos) (tC v):=
 λ_ _ _ H _ I h=>w_9 I hg hm ⟨v,H,I,r,h⟩ hd
def dm_5{x:Str}{v:V}{u:Value}{pos:Pos}(hg:Gl X x)(hm:X.mg x=none)(hv:bootBuiltins x=some u)(r:RelV v u)(hn:x≠ "__name__" :=by decide)(hd:(x ==("__debug__" :Str))=false:=by decide):PE X (.Name x pos) (tC v):=
 λ_ _ _ H _ I h=>ah_3 I hg hm hv ⟨v,H,I,r,h⟩ hn hd
variable{a b:Expr}{ta tb:TE}{pos:Pos}
variable{tA tB':TT}{En:List Expr}
def tAnd(t u:TT):TT:=λ σ H Q=>t σ H λc H1=>if c=true then u σ H1 Q else Q false H1
def tOr(t u:TT):TT:=λ σ H Q=>t σ H λc H1=>if c=true then Q true H1 else u σ H1 Q
def tNot(t:TT):TT:=λ σ H Q=>t σ H λc H1=>Q (!c) H1
def dm_6(ha:PT X a tA):PW X (.BoolOp .And [a] pos) tA:=by
 intro wh zd s σ H Q I h;refine isTrue_and (Bi (ha zd s σ H Q I h) λc s1 e=> ?_);cases c with
 |true=>exact isTrue_and_nil e
 |false=>exact e
def dx_7(ha:PT X a tA):PW X (.BoolOp .Or [a] pos) tA:=by
 intro wh zd s σ H Q I h;refine isTrue_or (Bi (ha zd s σ H Q I h) λc s1 e=> ?_);cases c with
 |false=>exact isTrue_or_nil e
 |true=>exact e
def dx_8(ha:PT X a tA)(hb:PW X (.BoolOp .And (b::En) pos) tB'):PW X (.BoolOp .And (a::b::En) pos) (tAnd tA tB'):=by
 intro wh zd s σ H Q I h;refine isTrue_and (Bi (ha zd s σ H _ I h) λc s1 ⟨H1,I1,q1⟩=> ?_);cases c with
 |true=>exact hb wh zd s1 σ H1 Q I1 q1
 |false=>exact⟨H1,I1,q1⟩
def ef_4(ha:PT X a tA)(hb:PW X (.BoolOp .Or (b::En) pos) tB'):PW X (.BoolOp .Or (a::b::En) pos) (tOr tA tB'):=by
 intro wh zd s σ H Q I h;refine isTrue_or (Bi (ha zd s σ H _ I h) λc s1 ⟨H1,I1,q1⟩=> ?_);cases c with
 |true=>exact⟨H1,I1,q1⟩
 |false=>exact hb wh zd s1 σ H1 Q I1 q1
def dx_9(ha:PT X a tA):PT X (.UnaryOp .Not a pos) (tNot tA):=by
 intro zd s σ H Q I h;exact isTrue_not (ha zd s σ H (λc H1=>Q (!c) H1) I h)
def ef_5(ta tb:TE):TE:=λ σ H Q=>ta σ H λx H1=>∃c,x=.bl c/\if c=true then tb σ H1 Q else Q (.bl false) H1
def ef_6(ta:TE):TE:=λ σ H Q=>ta σ H λx H1=>∃c,x=.bl c/\Q (.bl (!c)) H1
def dy_0{op}{t:TE}(h:PE X a t):PE X (.BoolOp op [a] pos) t:=λzd s σ H Q I hw=>BoolOp_one (h zd s σ H Q I hw)
def dy_1(ha:PE X a ta)(hb:PE X (.BoolOp .And (b::En) pos) tb):PE X (.BoolOp .And (a::b::En) pos) (ef_5 ta tb):=by
 intro zd s σ H Q I h;refine BoolOp_and (Bi (ha zd s σ H _ I h) λv s1 ⟨x,H1,I1,r1,q1⟩=> ?_);obtain⟨c,rfl,q1⟩:=q1;cases r1;refine wpAny_truthy_bool ?_;cases c with
 |true=>exact hb zd s1 σ H1 Q I1 q1
 |false=>exact⟨.bl false,H1,I1,rfl,q1⟩
def dy_2(ha:PE X a ta):PE X (.UnaryOp .Not a pos) (ef_6 ta):=by
 intro zd s σ H Q I h;refine UnaryOp_ (Bi (ha zd s σ H _ I h) λv s1 ⟨x,H1,I1,r1,q1⟩=> ?_);obtain⟨c,rfl,q1⟩:=q1;cases r1;exact not_of (wpAny_truthy_bool ⟨.bl (!c),H1,I1,rfl,q1⟩)
def tIf(t:TT)(ta tb:TE):TE:=λ σ H Q=>t σ H λc H1=>if c=true then ta σ H1 Q else tb σ H1 Q
def da_8{c:Expr}(hc:PT X c tA)(ha:PE X a ta)(hb:PE X b tb):PE X (.IfExp c a b pos) (tIf tA ta tb):=by
 intro zd s σ H Q I h;refine wpAny_IfExp (Bi (hc zd s σ H _ I h) λd s1 ⟨H1,I1,q1⟩=> ?_);cases d with
 |true=>exact ha zd s1 σ H1 Q I1 q1
 |false=>exact hb zd s1 σ H1 Q I1 q1
end
def SqL(K:Frag)(H:Hp)(a:Addr)(xs:List V):Prop:=
 Rd H a (.lst xs)\/
  ∃(o:Obj) (its:Array Value) (n:Nat),K.lookup a=some o/\o.cls=.type "list" /\o.dict=none/\o.data=.seq its n/\its.size<=sizeLine/\Vals xs its.toList
def SqT(K:Frag)(H:Hp)(a:Addr)(xs:List V):Prop:=
 Rd H a (.tup xs)\/
  ∃(o:Obj) (its:Array Value) (n:Nat),K.lookup a=some o/\o.cls=.type "tuple" /\o.data=.seq its n/\its.size<=sizeLine/\Vals xs its.toList
def absV:Value->Option V
 | .none=>some .non
 | .bool b=>some (.bl b)
 | .int i _=>some (.int i)
 | .str x _=>some (.str x)
 | .bytes b _=>some (.byt b)
 | .float b _=>some (.flt b)
 | .ref a=>some (.ref a)
 | .type n=>some (.ty n)
 |_=>none
def RelV.abs{x:V}{u:Value}(r:RelV x u):absV u=some x:=by
 cases x with
 |non=>cases r;rfl
 |bl _=>cases r;rfl
 |int _=>obtain⟨t,rfl⟩:=r;rfl
 |str _=>obtain⟨t,rfl⟩:=r;rfl
 |byt _=>obtain⟨t,rfl⟩:=r;rfl
 |flt _=>obtain⟨t,rfl⟩:=r;rfl
 |ref _=>cases r;rfl
 |ty _=>cases r;rfl
theorem RelV.inj{x y:V}{u:Value}(r:RelV x u)(q:RelV y u):x=y:=Option.some.inj (r.abs.symm.trans q.abs)
theorem Vals.inj:∀{xs ys:List V} {us:List Value},Vals xs us->Vals ys us->xs=ys
 |_,_,_,.nil,.nil=>rfl
 |_,_,_,.cons r t,.cons r' t'=>by rw [r.inj r',Vals.inj t t']
section
variable{X:Cx}{zd:List (Addr×Obj)}{σ:St}{H:Hp}{s:Shared}{a:Addr}{xs ys:List V}
def SqL.of{K:Frag}(h:H a=some (.lst xs)):SqL K H a xs:=.inl (.inl h)
def SqT.of{K:Frag}(h:H a=some (.tup xs)):SqT K H a xs:=.inl (.inl h)
def Inv.list(I:Inv X zd σ H s)(h:SqL X.K H a xs):∃its:List Value,Vals xs its/\PlainL s.heap a its.toArray/\xs.length<=sizeLine:=by
 rcases h with h|⟨o,its,n,hk,hc,hd,hs,hz,r⟩
 ·obtain⟨z,its,n,r,e⟩:=h.ok I.hok;exact⟨its,r,⟨_,n,e,rfl,rfl,rfl⟩,z⟩
 ·refine⟨its.toList,r,⟨o,n,I.kIn a o hk,hc,hd,by simpa using hs⟩, ?_⟩;have e:=r.length;simp only [Array.length_toList] at e;omega
def Inv.tuple(I:Inv X zd σ H s)(h:SqT X.K H a xs):∃its:List Value,Vals xs its/\IsTup s.heap a its.toArray/\xs.length<=sizeLine:=by
 rcases h with h|⟨o,its,n,hk,hc,hs,hz,r⟩
 ·obtain⟨z,its,r,p⟩:=h.ok I.hok;exact⟨its,r,p,z⟩
 ·refine⟨its.toList,r,⟨o,I.kIn a o hk,hc,n,by simpa using hs⟩, ?_⟩;have e:=r.length;simp only [Array.length_toList] at e;omega
def Inv.list_inj(I:Inv X zd σ H s)(h:SqL X.K H a xs)(h':SqL X.K H a ys):xs=ys:=by
 obtain⟨its,r,⟨o,n,e,_,_,d⟩,_⟩:=I.list h;obtain⟨its',r',⟨o',n',e',_,_,d'⟩,_⟩:=I.list h';rw [e] at e';cases e';rw [d] at d';injection d' with d1 _
 have:its=its':=by simpa using congrArg Array.toList d1
 subst this;exact r.inj r'
def Inv.tuple_inj(I:Inv X zd σ H s)(h:SqT X.K H a xs)(h':SqT X.K H a ys):xs=ys:=by
 obtain⟨its,r,⟨o,e,_,n,d⟩,_⟩:=I.tuple h;obtain⟨its',r',⟨o',e',_,n',d'⟩,_⟩:=I.tuple h';rw [e] at e';cases e';rw [d] at d';injection d' with d1 _
 have:its=its':=by simpa using congrArg Array.toList d1
 subst this;exact r.inj r'
end
abbrev Cx.wish(X:Cx)(E:Value->Shared->Prop):Cx:={X with xe:=E}
abbrev Cx.nox(X:Cx):Cx:=X.wish λ_ _=>False
theorem Cx.Ok.wish{X:Cx}(ok:X.Ok)(E:Value->Shared->Prop):(X.wish E).Ok:=
 ⟨ok.mod,ok.kind,ok.glob,ok.blt,ok.above,ok.inj,ok.has,ok.cab,ok.hd,ok.frames,ok.stk,ok.exf,ok.bs,ok.bsz,ok.noex,ok.exfs,ok.funs,ok.frf⟩
def Cx.Ok.unwish{X:Cx}{E:Value->Shared->Prop}(ok:(X.wish E).Ok):X.Ok:=
 ⟨ok.mod,ok.kind,ok.glob,ok.blt,ok.above,ok.inj,ok.has,ok.cab,ok.hd,ok.frames,ok.stk,ok.exf,ok.bs,ok.bsz,ok.noex,ok.exfs,ok.funs,ok.frf⟩
section
variable{X:Cx}{zd:List (Addr×Obj)}{σ:St}{H:Hp}{s:Shared}{E:Value->Shared->Prop}
theorem Inv.wish(I:Inv X zd σ H s)(E:Value->Shared->Prop):Inv (X.wish E) zd σ H s:=⟨I.ok.wish E,I.os,I.bare,I.base,I.loc,I.cell,I.free,I.freeC,I.pin,I.hok,I.len⟩
theorem Inv.unwish(I:Inv (X.wish E) zd σ H s):Inv X zd σ H s:=⟨I.ok.unwish,I.os,I.bare,I.base,I.loc,I.cell,I.free,I.freeC,I.pin,I.hok,I.len⟩
theorem SP.unwish{D:Ends}{f:Flow}{s':Shared}(h:SP (X.wish E) zd D f s'):SP X zd D f s':=by
 cases f with
 |next=>obtain⟨σ',H',I,q⟩:=h;exact⟨σ',H',I.unwish,q⟩
 |brk=>obtain⟨σ',H',I,q⟩:=h;exact⟨σ',H',I.unwish,q⟩
 |cont=>obtain⟨σ',H',I,q⟩:=h;exact⟨σ',H',I.unwish,q⟩
 |ret u=>obtain⟨v,σ',H',I,r,q⟩:=h;exact⟨v,σ',H',I.unwish,r,q⟩
theorem PE.nox{e:Expr}{t:TE}(h:PE X.nox e t):PE X e t:=λzd s σ H Q I hw=>
 wpAny_mono (h zd s σ H Q (I.wish _) hw) (λ_ _ ⟨v,H',I',r,q⟩=>⟨v,H',I'.unwish,r,q⟩) λ_ _ z=>False.elim z
end
section
variable{X:Cx}{st:Stmt}{En:List Stmt}{t u:TS}{e:Expr}{te:TE}{pos:Pos}
def ef_7:TS:=λD σ H=>D.nx σ H
def tSeq(t u:TS):TS:=λD σ H=>t {D with nx:=u D} σ H
def dm_7:PSs X [] ef_7:=λ_ _ σ H _ I h=>wpAny_execs_nil ⟨σ,H,I,h⟩
def da_9(h1:PS X st t)(h2:PSs X En u):PSs X (st::En) (tSeq t u):=by
 intro zd s σ H D I h;refine wpAny_execs_cons (Bi (h1 zd s σ H {D with nx:=u D} I h) λf s1 q=> ?_);cases f with
 |next=>
  obtain⟨σ',H',I',q⟩:=q;exact h2 zd s1 σ' H' D I' q
 |ret v=>exact q
 |brk=>exact q
 |cont=>exact q
def aq_0(h1:PS X st t):PSs X [st] t:=by
 intro zd s σ H D I h;refine wpAny_execs_cons (Bi (h1 zd s σ H D I h) λf s1 q=> ?_);cases f with
 |next=>exact wpAny_execs_nil q
 |ret v=>exact q
 |brk=>exact q
 |cont=>exact q
def Inv.quiet{zd:List (Addr×Obj)}{σ:St}{H:Hp}{s:Shared}(I:Inv X zd σ H s):interactive X.env=false:=by simp [interactive,I.ok.kind]
def ef_8(te:TE):TS:=λD σ H=>te σ H λ_ H1=>D.nx σ H1
def ad_5(he:PE X e te)(hs:swapsWith e none pos.line X.env=pure false:=by rfl):PS X (.Expr e pos) (ef_8 te):=by
 intro zd s σ H D I h;exact wpAny_Expr_any (Bi (he zd s σ H _ I h) λv s1 ⟨x,H1,I1,r1,q1⟩=>⟨σ,H1,I1,q1⟩) I.quiet hs
def tRet(te:TE):TS:=λD σ H=>te σ H D.rt
def ci_8(he:PE X e te):PS X (.Return (some e) pos) (tRet te):=by
 intro zd s σ H D I h;exact wpAny_Return_some (Bi (he zd s σ H _ I h) λv s1 ⟨x,H1,I1,r1,q1⟩=>⟨x,σ,H1,I1,r1,q1⟩)
def tIfS(c:TT)(t u:TS):TS:=λD σ H=>c σ H λb H1=>if b=true then t D σ H1 else u D σ H1
def ef_9{c:Expr}{a b:List Stmt}{tc:TT}(hc:PT X c tc)(ha:PSs X a t)(hb:PSs X b u):PS X (.If c a b pos) (tIfS tc t u):=by
 intro zd s σ H D I h;refine wpAny_If (Bi (hc zd s σ H _ I h) λd s1 ⟨H1,I1,q1⟩=> ?_);cases d with
 |true=>exact ha zd s1 σ H1 D I1 q1
 |false=>exact hb zd s1 σ H1 D I1 q1
end
abbrev TG:=V->St->Hp->(St->Hp->Prop)->Prop
abbrev TGs:=List V->St->Hp->(St->Hp->Prop)->Prop
def PG(X:Cx)(target:Expr)(t:TG):Prop:=
 ∀(zd:List (Addr×Obj)) (s:Shared) (σ:St) (H:Hp) (v:V) (u:Value) (Q:St->Hp->Prop),Inv X zd σ H s->RelV v u->t v σ H Q->
  wpAny (model X.prog X.w) X.A (assign target X.env u) (λ_ s'=>∃σ' H',Inv X zd σ' H' s'/\Q σ' H') X.xe s
def PGs(X:Cx)(ts:List Expr)(t:TGs):Prop:=
 ∀(zd:List (Addr×Obj)) (s:Shared) (σ:St) (H:Hp) (vs:List V) (us:List Value) (Q:St->Hp->Prop),Inv X zd σ H s->Vals vs us->t vs σ H Q->
  wpAny (model X.prog X.w) X.A (assignInOrder ((assignEach ts X.env).map (·.2)) us) (λ_ s'=>∃σ' H',Inv X zd σ' H' s'/\Q σ' H') X.xe s
abbrev TSet:=V->V->V->Hp->(Hp->Prop)->Prop
def PSet(X:Cx)(t:TSet):Prop:=
 ∀(zd:List (Addr×Obj)) (s:Shared) (σ:St) (H:Hp) (o i v:V) (ov iv u:Value) (Q:Hp->Prop),Inv X zd σ H s->RelV o ov->RelV i iv->RelV v u->t o i v H Q->
  wpAny (model X.prog X.w) X.A (setItem ov iv u) (λ_ s'=>∃H',Inv X zd σ H' s'/\Q H') X.xe s
section
variable{X:Cx}{pos:Pos}
def cp_3(i:Nat):TG:=λv σ H Q=>Q (σ.set i (some v)) H
def ba_7{i:Nat}{x:Str}(hN:X.N.Nodup)(hi:X.N[i]? =some x)(hx:Loc X.env.scope x)(hf:X.fn x=true\/X.env.scope.names.lookup x=some .local:=by first|exact .inl rfl|exact .inr rfl|assumption):PG X (.Name x pos) (cp_3 i):=by
 intro zd s σ H v u Q I r h;exact wpAny_assign_Name (bc_5 I hN hi hx r (λs' I'=>⟨_,H,I',h⟩) hf)
def gNil:TGs:=λvs σ H Q=>vs= []/\Q σ H
def eg_1(t:TG)(u:TGs):TGs:=λvs σ H Q=>∃v r,vs=v::r/\t v σ H λ σ' H'=>u r σ' H' Q
def dm_8:PGs X [] gNil:=by
 intro zd s σ H vs us Q I r h;obtain⟨e,h⟩:=h;subst e;cases r;exact assignInOrder_nil ⟨σ,H,I,h⟩
def bz_1{e:Expr}{es:List Expr}{t:TG}{u:TGs}(h1:PG X e t)(h2:PGs X es u)
  (hs:(assignEach (e::es) X.env).map (·.2)=assign e X.env::(assignEach es X.env).map (·.2):=by rfl):PGs X (e::es) (eg_1 t u):=by
 intro zd s σ H vs us Q I r h;obtain⟨v,vr,e1,h⟩:=h;subst e1;cases r with
 |cons r rr=>
  rw [hs];refine assignInOrder_cons (Bi (h1 zd s σ H _ _ _ I r h) λ_ s1 ⟨σ1,H1,I1,q1⟩=> ?_);exact h2 zd s1 σ1 H1 _ _ Q I1 rr q1
def gTup(K:Frag)(n:Nat)(t:TGs):TG:=λv σ H Q=>∃a xs,v=.ref a/\SqT K H a xs/\xs.length=n/\t xs σ H Q
def dy_4{es:List Expr}{k:Nat}{t:TGs}{n:Nat}(hc:X.calm=true)(h:PGs X es t)
  (hn:(assignEach es X.env).length=n:=by rfl) (hst:(assignEach es X.env).findIdx? (·.1)=none:=by rfl):PG X (.Tuple es k pos) (gTup X.K n t):=by
 intro zd s σ H v u Q I r hw;obtain⟨a,xs,e1,hq,hl,hw⟩:=hw;subst e1;cases r;obtain⟨its,rv,ht,hz⟩:=I.tuple hq;refine assign_Tuple_tuple (I.ok.hd hc) ht (by simp [hn,<-hl,rv.length]) hst λh' hx=> ?_;have I1:Inv X zd σ H {s with heap:=h'}:=I.kept (t':=s.toks) λb o e=>hx b o (Nat.ne_of_lt (Heap.lt_size e)) e;exact h zd _ σ H xs _ Q I1 (by simpa using rv) hw
def gSub(to ti:TE)(t:TSet):TG:=λv σ H Q=>to σ H λo H1=>ti σ H1 λi H2=>t o i v H2 λH3=>Q σ H3
def dy_5{o i:Expr}{to ti:TE}{t:TSet}(ho:PE X o to)(hi:PE X i ti)(hs:PSet X t)
  (ha:∀v,assign (.Subscript o i pos) X.env v=(do
   let ov<-holding [v] (eval o X.env)
   let iv<-holding [v,ov] (eval i X.env)
   standAt pos
   holding [v,ov,iv] (setItem ov iv v)
   release [v,ov,iv] []):=by intro _;rfl):PG X (.Subscript o i pos) (gSub to ti t):=by
 intro zd s σ H v u Q I r h;rw [ha];refine wpAny_bind (wpAny_holding (Bi (ho zd s σ H _ I h) λov s1 ⟨x,H1,I1,r1,q1⟩=> ?_));refine wpAny_bind (wpAny_holding (Bi (hi zd s1 σ H1 _ I1 q1) λiv s2 ⟨y,H2,I2,r2,q2⟩=> ?_));refine wpAny_bind (wpAny_standAt (wpAny_bind (wpAny_holding (Bi (hs zd s2 σ H2 x y v ov iv u _ I2 r1 r2 r q2) λ_ s3 ⟨H3,I3,q3⟩=> ?_))));exact wpAny_release ⟨σ,H3,I3,q3⟩
def tAsg(te:TE)(g:TG):TS:=λD σ H=>te σ H λx H1=>g x σ H1 D.nx
def dy_6{tg e:Expr}{te:TE}{g:TG}(he:PE X e te)(hg:PG X tg g)(hs:swapsWithSole [tg] e pos.line X.env=pure false:=by rfl)(hw:swappedStores [tg] e X.env=pure none:=by rfl)
  (h1:(assignEach [tg] X.env).map (·.2)= [assign tg X.env]:=by rfl):PS X (.Assign [tg] e pos) (tAsg te g):=by
 intro zd s σ H D I h;refine wpAny_Assign_stores (Bi (he zd s σ H _ I h) λv s1 ⟨x,H1,I1,r1,q1⟩=> ?_) hs hw;rw [h1];exact Bi (hg zd s1 σ H1 x v _ I1 r1 q1) λ_ s2 q=>q
def ci_9{i:Nat}{x:Str}{e:Expr}{te:TE}{pos':Pos}(hN:X.N.Nodup)(hi:X.N[i]? =some x)(hx:Loc X.env.scope x)(he:PE X e te)(hs:swapsWith e (some (.Name x pos')) pos.line X.env=pure false:=by rfl)(hf:X.fn x=true\/X.env.scope.names.lookup x=some .local:=by first|exact .inl rfl|exact .inr rfl|assumption):
  PS X (.Assign [.Name x pos'] e pos) (tAsg te (cp_3 i)):=by
 intro zd s σ H D I h;refine wpAny_Assign_Name (Bi (he zd s σ H _ I h) λv s1 ⟨y,H1,I1,r1,q1⟩=> ?_) hs;exact bc_5 I1 hN hi hx r1 (λs2 I2=>⟨_,H1,I2,q1⟩) hf
end
section
variable{X:Cx}{pos:Pos}
def dy_7(c:TT)(tb:TS):TS:=λD σ H=>∃W:Nat->St->Hp->Prop,(∃m,W m σ H)/\∀m σ H,W m σ H->
 c σ H λb H1=>if b=true then∃N:St->Hp->Prop,(∀σ' H',N σ' H'->∃m',m' < m/\W m' σ' H')/\tb {D with nx:=N,ct:=N,bk:=D.nx} σ H1 else D.nx σ H1
def db_0{c:Expr}{body:List Stmt}{tc:TT}{tb:TS}(hp:PassesOwn (model X.prog X.w) X.A X.env X.xe)(hc:PT X c tc)(hb:PSs X body tb):PS X (.While c body [] pos) (dy_7 tc tb):=by
 intro zd s σ H D I h;obtain⟨W,⟨m0,w0⟩,turn⟩:=h;refine wpAny_While (codeAny_whileLoop (λn s'=>∃σ' H',Inv X zd σ' H' s'/\W n σ' H') ?_ m0 ⟨σ,H,I,w0⟩)
 rintro n s1 ⟨σ1,H1,I1,w1⟩
 refine wpAny_passesOwn hp (Bi (hc zd s1 σ1 H1 _ I1 (turn n σ1 H1 w1)) λb s2 ⟨H2,I2,q2⟩=> ?_);cases b with
 |true=>
  obtain⟨N,hN,q2⟩:=q2;rw [if_pos rfl];refine wpAny_passesOwn hp (Bi (hb zd s2 σ1 H2 _ I2 q2) λf s3 q3=> ?_);cases f with
  |next=>
   obtain⟨σ3,H3,I3,n3⟩:=q3;obtain⟨m',hm,w3⟩:=hN σ3 H3 n3;exact⟨m',hm,σ3,H3,I3,w3⟩
  |cont=>
   obtain⟨σ3,H3,I3,n3⟩:=q3;obtain⟨m',hm,w3⟩:=hN σ3 H3 n3;exact⟨m',hm,σ3,H3,I3,w3⟩
  |brk=>exact q3
  |ret v=>exact q3
 |false=>
  rw [if_neg Bool.false_ne_true];exact wpAny_execs_nil ⟨σ1,H2,I2,q2⟩
end
structure It where
 go:Nat->Hp->Prop
 yld:Nat->Hp->V->Hp->Prop
 stop:Nat->Hp->Prop
def Dy(X:Cx)(zd:List (Addr×Obj))(H:Hp)(b:Addr):Prop:=
 H b=none/\b≠X.env.locals/\b∉X.fs/\(b∈X.ex\/X.s₀.heap.objs.size<=b)/\(∀x c,X.env.cells.lookup x=some c->c≠b)/\∀p∈X.pn ++ zd,p.1≠b
def Inv.fpOk{X:Cx}{zd:List (Addr×Obj)}{σ:St}{H H':Hp}{s:Shared}{b:Addr}(I:Inv X zd σ H s)(hb:s.heap.objs.size<=b)(hn:H' b=none):Dy X zd H' b:=by
 refine⟨hn,Nat.ne_of_gt (Nat.lt_of_lt_of_le I.lt hb),I.nofs hb,.inr (Nat.le_trans I.sz hb),λx c e z=> ?_,λp hp z=> ?_⟩
 ·obtain⟨v,q⟩:=I.cell x c e;exact absurd (Nat.lt_of_lt_of_le q.lt (by rw [z];exact hb)) (Nat.lt_irrefl _)
 ·exact absurd (Nat.lt_of_lt_of_le (Heap.lt_size (I.pin p hp).1) (by rw [z];exact hb)) (Nat.lt_irrefl _)
structure Turn(P:Program)(w:World)(K:Frag)(tg:Expr)(J:It)(fp:List Addr)(it:Addr)(tn:Nat->Heap->Prop):Prop where
 mem:it∈fp
 obj:∀i h,tn i h->∀b∈fp,∃o,h.get? b=some o/\∀v,o.data≠ .cell v
 keep:∀i h h',tn i h->(∀b∈fp,∀o,h.get? b=some o->h'.get? b=some o)->tn i h'
 item:∀(X:Cx),X.prog=P->X.w=w->X.K=K->X.calm=true->∀(i:Nat) (zd:List (Addr×Obj)) (s:Shared) (σ:St) (H:Hp) (E:Value->Shared->Prop),Inv X zd σ H s->(∀b∈fp,Dy X zd H b)->tn i s.heap->J.go i H->
  wpAny (model P w) X.A (pyNext (.ref it)) (λr s1=>∃u,r=some u/\
   wpAny (model P w) X.A (letOwnedTupleGo tg (.ref it) u) (λ_ s2=>∃x H',Inv X zd σ H' s2/\RelV x u/\J.yld i H x H'/\tn (i + 1) s2.heap/\∀b∈fp,H' b=none) E s1) E s
 done:∀(X:Cx),X.prog=P->X.w=w->X.K=K->X.calm=true->∀(i:Nat) (zd:List (Addr×Obj)) (s:Shared) (σ:St) (H:Hp) (E:Value->Shared->Prop),Inv X zd σ H s->(∀b∈fp,Dy X zd H b)->tn i s.heap->J.stop i H->
  wpAny (model P w) X.A (pyNext (.ref it)) (λr s1=>r=none/\Inv X zd σ H s1) E s
 self:∀(A:Around) (i:Nat) (s:Shared) (Q:Value->Shared->Prop) (E:Value->Shared->Prop),tn i s.heap->Q (.ref it) s->wpAny (model P w) A (pyIter (.ref it)) Q E s
abbrev TI:=St->Hp->(It->Hp->Prop)->Prop
def PIE(X:Cx)(zd:List (Addr×Obj))(σ:St)(tg:Expr)(R:It->Hp->Prop)(itv:Value)(s2:Shared):Prop:=
 ∃(it:Addr) (fp:List Addr) (tn:Nat->Heap->Prop) (J:It) (H':Hp),itv=.ref it/\Inv X zd σ H' s2/\Turn X.prog X.w X.K tg J fp it tn/\tn 0 s2.heap/\(∀b∈fp,Dy X zd H' b)/\R J H'
def PI(X:Cx)(tg iter:Expr)(wi:TI):Prop:=
 ∀(zd:List (Addr×Obj)) (s:Shared) (σ:St) (H:Hp) (R:It->Hp->Prop),Inv X zd σ H s->wi σ H R->
  wpAny (model X.prog X.w) X.A (eval iter X.env) (λv s1=>wpAny (model X.prog X.w) X.A (pyIter v) (PIE X zd σ tg R) X.xe s1) X.xe s
def bz_2{M:Model}{A:Around}{E:Value->Shared->Prop}{s:Shared}{tg:Expr}{it:Addr}{u:Value}{o:Obj}{n:String}{vs:Array Value}{Q:Unit->Shared->Prop}(ho:s.heap.get? it=some o)(hc:o.cls=.type n)(hd:o.data=.fields vs)
  (hn: ["enumerate","zip","dict_itemiterator","dict_reverseitemiterator","odict_iterator","itertools.zip_longest","itertools.pairwise"].contains n=false) (hQ:Q () s):wpAny M A (letOwnedTupleGo tg (.ref it) u) Q E s:=by
 unfold letOwnedTupleGo;cases tg <;> first
  |exact wpAny_pure hQ
  | (cases u <;> first
    |exact wpAny_pure hQ
    | (refine wpAny_bind (wpAny_load ho ?_)
       rw [hc,hd];show wpAny M A (if(["enumerate","zip","dict_itemiterator","dict_reverseitemiterator","odict_iterator","itertools.zip_longest","itertools.pairwise"].contains n && vs[0]? ==some (rawInt _))=true then _ else _) Q E s;rw [if_neg (by intro h;rw [hn,Bool.false_and] at h;cases h)];exact wpAny_pure hQ))
def Itl(K:Frag)(a:Addr):It:=
 ⟨λi H=>∃xs x,SqL K H a xs/\xs[i]? =some x,λi H x H'=>H'=H/\∀xs,SqL K H a xs->xs[i]? =some x,λi H=>∃xs,SqL K H a xs/\xs.length<=i⟩
def Itt(K:Frag)(a:Addr):It:=
 ⟨λi H=>∃xs x,SqT K H a xs/\xs[i]? =some x,λi H x H'=>H'=H/\∀xs,SqT K H a xs->xs[i]? =some x,λi H=>∃xs,SqT K H a xs/\xs.length<=i⟩
def Itr(lo:Int)(n:Nat):It:=⟨λi _=>i < n,λi H x H'=>H'=H/\x=.int (lo + i),λi _=>n<=i⟩
def cu_4{P:Program}{w:World}{K:Frag}{tg:Expr}(a it:Addr):Turn P w K tg (Itl K a) [it] it (λi h=>h.IsListIter it a i) where
 mem:=by simp
 obj:=λi h st b hb=>by
  have e:b=it:=by simpa using hb
  subst e;obtain⟨o,e,c,d⟩:=st;exact⟨o,e,λv z=>by rw [d] at z;cases z⟩
 keep:=λi h h' st k=>st.at λo e=>k it (by simp) o e
 item:=by
  intro X hP hw hK hc i zd s σ H E I hf st hg;subst hP hw hK;obtain⟨xs,x,hq,hx⟩:=hg;obtain⟨its,rv,p,hz⟩:=I.list hq;obtain⟨u,hu,ru⟩:=rv.get hx;obtain⟨f0,f1,f2,f3,f4,f5⟩:=hf it (by simp);refine wpAny_pyNext_list_item st p.isList (x:=u) (by simpa using hu) λh' st' sb=> ?_;have I1:Inv X zd σ H {s with heap:=h'}:=I.turned (t':=s.toks) (λb o hb e=>(sb.2 b hb).trans e) f0 f1 f3 f4 f5;obtain⟨o,e,c,d⟩:=id st';exact⟨u,rfl,bz_2 (s:={s with heap:=h'}) e c d (by decide) ⟨x,H,I1,ru,⟨rfl,λys hy=>by rw [I.list_inj hy hq];exact hx⟩,st',λb hb=>(hf b hb).1⟩⟩
 done:=by
  intro X hP hw hK hc i zd s σ H E I hf st hg;subst hP hw hK;obtain⟨xs,hq,hx⟩:=hg;obtain⟨its,rv,p,hz⟩:=I.list hq;obtain⟨f0,f1,f2,f3,f4,f5⟩:=hf it (by simp);have hl:=rv.length;exact wpAny_pyNext_list_end (I.ok.hd hc) st p.isList (by simp;omega) λh' eb=>⟨rfl,I.turned (t':=s.toks) (λb o hb e=>eb b o hb e) f0 f1 f3 f4 f5⟩
 self:=λ_ _ _ _ _ st h=>wpAny_pyIter_listiter st h
def cj_0{P:Program}{w:World}{K:Frag}{tg:Expr}(a it:Addr):Turn P w K tg (Itt K a) [it] it (λi h=>h.IsTupleIter it a i) where
 mem:=by simp
 obj:=λi h st b hb=>by
  have e:b=it:=by simpa using hb
  subst e;obtain⟨o,e,c,d⟩:=st;exact⟨o,e,λv z=>by rw [d] at z;cases z⟩
 keep:=λi h h' st k=>st.at λo e=>k it (by simp) o e
 item:=by
  intro X hP hw hK hc i zd s σ H E I hf st hg;subst hP hw hK;obtain⟨xs,x,hq,hx⟩:=hg;obtain⟨its,rv,p,hz⟩:=I.tuple hq;obtain⟨u,hu,ru⟩:=rv.get hx;obtain⟨f0,f1,f2,f3,f4,f5⟩:=hf it (by simp);refine wpAny_pyNext_tuple_item st (show s.heap.IsTuple a its.toArray from p) (x:=u) (by simpa using hu) λh' st' sb=> ?_;have I1:Inv X zd σ H {s with heap:=h'}:=I.turned (t':=s.toks) (λb o hb e=>(sb.2 b hb).trans e) f0 f1 f3 f4 f5;obtain⟨o,e,c,d⟩:=id st';exact⟨u,rfl,bz_2 (s:={s with heap:=h'}) e c d (by decide) ⟨x,H,I1,ru,⟨rfl,λys hy=>by rw [I.tuple_inj hy hq];exact hx⟩,st',λb hb=>(hf b hb).1⟩⟩
 done:=by
  intro X hP hw hK hc i zd s σ H E I hf st hg;subst hP hw hK;obtain⟨xs,hq,hx⟩:=hg;obtain⟨its,rv,p,hz⟩:=I.tuple hq;obtain⟨f0,f1,f2,f3,f4,f5⟩:=hf it (by simp);have hl:=rv.length;exact wpAny_pyNext_tuple_end (I.ok.hd hc) st (show s.heap.IsTuple a its.toArray from p) (by simp;omega) λh' eb=>⟨rfl,I.turned (t':=s.toks) (λb o hb e=>eb b o hb e) f0 f1 f3 f4 f5⟩
 self:=λ_ _ _ _ _ st h=>wpAny_pyIter_tupleiter st h
def cj_1{P:Program}{w:World}{K:Frag}{tg:Expr}(it:Addr)(lo:Int)(n:Nat):Turn P w K tg (Itr lo n) [it] it (λi h=>IsRangeIter h it (lo + (i:Nat) * 1) ((n:Int) - (i:Nat)) 1) where
 mem:=by simp
 obj:=λi h st b hb=>by
  have e:b=it:=by simpa using hb
  subst e;exact⟨_,st,λv z=>by
   have z':Data.fields _=Data.cell v:=z;cases z'⟩
 keep:=λi h h' st k=>k it (by simp) _ st
 item:=by
  intro X hP hw hK hc i zd s σ H E I hf st hg;subst hP hw hK;obtain⟨f0,f1,f2,f3,f4,f5⟩:=hf it (by simp);have W:=Walks.range (prog:=X.prog) (w:=X.w) (I.ok.hd hc) it lo 1 n;refine W.item i s _ _ hg st λv h' tk hv st' kk=> ?_;obtain⟨t,rfl⟩:=hv;have I1:Inv X zd σ H {s with heap:=h',toks:=tk}:=I.turned (λb o hb e=>kk b o (by simpa using hb) e) f0 f1 f3 f4 f5;refine⟨_,rfl,bz_2 (s:={s with heap:=h',toks:=tk}) (n:= "range_iterator") st' rfl rfl (by decide) ⟨.int (lo + i),H,I1,⟨t, ?_⟩,⟨rfl,rfl⟩,st',λb hb=>(hf b hb).1⟩⟩;rw [Int.mul_one]
 done:=by
  intro X hP hw hK hc i zd s σ H E I hf st hg;subst hP hw hK;obtain⟨f0,f1,f2,f3,f4,f5⟩:=hf it (by simp);exact wpAny_pyNext_range_end (I.ok.hd hc) st (by have:n<=i:=hg;omega) λh' eb=>⟨rfl,I.turned (t':=s.toks) (λb o hb e=>eb b o hb e) f0 f1 f3 f4 f5⟩
 self:=λ_ _ _ _ _ st h=>wpAny_pyIter_rangeiter st h
section
variable{X:Cx}{tg:Expr}
def db_1{zd:List (Addr×Obj)}{σ:St}{H:Hp}{s:Shared}{R:It->Hp->Prop}{E:Value->Shared->Prop}{lo hi:Int}{t u v:Tok}{tk:Nat}(I:Inv X zd σ H s)(h1: -(2 ^ 62)<=lo)(h2:lo < 2 ^ 62)(h3: -(2 ^ 62)<=hi)(h4:hi < 2 ^ 62)
  (q:R (Itr lo (hi - lo).toNat) H):wpAny (model X.prog X.w) X.A (pyIter (.ref s.heap.objs.size)) (PIE X zd σ tg R) E {s with heap:=s.heap.push {cls:=.type "range",data:=.fields #[.int lo t,.int hi u,.int 1 v]},toks:=tk}:=by
 refine wpAny_pyIter_range (IsRange.new ..) (small_one h1 h2 h3 h4) ?_;have I1:Inv X zd σ H {s with heap:=s.heap.push {cls:=.type "range",data:=.fields #[.int lo t,.int hi u,.int 1 v]},toks:=tk}:=I.kept λb o e=>Heap.get?_push_of_some _ e;refine⟨(s.heap.push {cls:=.type "range",data:=.fields #[.int lo t,.int hi u,.int 1 v]}).objs.size,[(s.heap.push {cls:=.type "range",data:=.fields #[.int lo t,.int hi u,.int 1 v]}).objs.size],_,_,H,rfl,
  I1.kept (t':=tk) λb o e=>Heap.get?_push_of_some _ e,cj_1 _ lo (hi - lo).toNat, ?_,λb hb=> ?_,q⟩
 ·have e1:lo + ((0:Nat):Int) * 1=lo:=by simp
  have e2:(((hi - lo).toNat:Nat):Int) - ((0:Nat):Int)=Builtin.Range.rangeSize lo hi 1:=by rw [rangeSize_one];split <;> omega
  show IsRangeIter _ _ (lo + ((0:Nat):Int) * 1) ((((hi - lo).toNat:Nat):Int) - ((0:Nat):Int)) 1;rw [e1,e2];exact Heap.get?_push_size _ rfl
 ·have e:b=(s.heap.push {cls:=.type "range",data:=.fields #[.int lo t,.int hi u,.int 1 v]}).objs.size:=by simpa using hb
  subst e;exact I1.fpOk (Nat.le_refl _) (I1.hok.fresh (Nat.le_refl _))
def eg_2(ta:TA):TI:=λ σ H R=>ta σ H λvs H1=>∃j:Int,vs= [.int j]/\ -(2 ^ 62)<=j/\j < 2 ^ 62/\R (Itr 0 j.toNat) H1
def cu_5{a:Expr}{ta:TA}{p pos:Pos}(hg:Gl X "range")(hm:X.mg "range" =none)(ha:PA X [a] ta)(hs:starEach [a] X.env= [(false,eval a X.env)]:=by rfl):PI X tg (.Call (.Name "range" p) [a] [] pos) (eg_2 ta):=by
 intro zd s σ H R I h;refine Call_ (ah_3 I hg hm boot_range (PyProof.Rows.callWith_type1 (Bi (ha pos zd s σ H _ I h) λus s1 ⟨vs,H1,I1,r1,q1⟩=> ?_) hs rfl));obtain⟨j,e,q1,q2,q⟩:=q1;subst e;cases r1 with
 |cons r rr=>
  cases rr;obtain⟨t,rfl⟩:=r;exact call_range_1 (db_1 I1 (by omega) (by omega) q1 q2 (by simpa using q))
def tFor(wi:TI)(g:TG)(tb:TS):TS:=λD σ H=>wi σ H λJ H1=>∃W:Nat->Nat->St->Hp->Prop,(∃m,W 0 m σ H1)/\∀i m σ H,W i m σ H->
 (J.stop i H/\D.nx σ H)\/(J.go i H/\∃N:St->Hp->Prop,(∀σ' H',N σ' H'->∃m',m' < m/\W (i + 1) m' σ' H')/\∀x H',J.yld i H x H'->g x σ H' λ σ2 H2=>tb {D with nx:=N,ct:=N,bk:=D.nx} σ2 H2)
def bc_6(fp:List Addr)(h:Heap):List (Addr×Obj):=fp.filterMap λb=>(h.get? b).map λo=>(b,o)
def ad_6{fp:List Addr}{h:Heap}{b:Addr}{o:Obj}(hb:b∈fp)(e:h.get? b=some o):(b,o)∈bc_6 fp h:=List.mem_filterMap.mpr ⟨b,hb,by rw [e];rfl⟩
def cu_6{fp:List Addr}{h:Heap}{p:Addr×Obj}(hp:p∈bc_6 fp h):p.1∈fp/\h.get? p.1=some p.2:=by
 obtain⟨b,hb,e⟩:=List.mem_filterMap.mp hp;cases q:h.get? b with
 |none=>rw [q] at e;cases e
 |some o=>
  rw [q] at e;have e':(b,o)=p:=Option.some.inj e;subst e';exact⟨hb,q⟩
def Inv.pinned{zd:List (Addr×Obj)}{σ:St}{H:Hp}{s:Shared}{fp:List Addr}(I:Inv X zd σ H s)(hf:∀b∈fp,Dy X zd H b)(ho:∀b∈fp,∃o,s.heap.get? b=some o/\∀v,o.data≠ .cell v):Inv X (zd ++ bc_6 fp s.heap) σ H s:=
 I.pins_of λp hp=>(List.mem_append.mp hp).elim (λz=>I.pin p (List.mem_append_right _ z)) λz=>by
  obtain⟨hb,e⟩:=cu_6 z;obtain⟨f0,f1,f2,_⟩:=hf p.1 hb;obtain⟨o,e',d⟩:=ho p.1 hb;rw [e] at e';cases e';exact⟨e,f0,f1,f2,d⟩
def Inv.unpinned{zd pl:List (Addr×Obj)}{σ:St}{H:Hp}{s:Shared}(I:Inv X (zd ++ pl) σ H s):Inv X zd σ H s:=I.pins_of λp hp=>I.pin p (List.mem_append_right _ (List.mem_append_left _ hp))
def dy_8{iter:Expr}{body:List Stmt}{wi:TI}{g:TG}{tb:TS}{pos:Pos}(hp:PassesOwn (model X.prog X.w) X.A X.env X.xe)(hc:X.calm=true)(hi:PI X tg iter wi)(hg:PG X tg g)(hb:PSs X body tb)
  (hs:∀x,foldedSetIterable iter X.env x=pure x:=by intro _;rfl):PS X (.For tg iter body [] pos) (tFor wi g tb):=by
 intro zd s σ H D I h;refine wpAny_For (Bi (hi zd s σ H _ I h) λv s1 h1=>Bi h1 λitv s2 h2=> ?_) hs;obtain⟨it,fp,tn,J,H2,e,I2,T,st2,f2,W,⟨m0,w0⟩,turn⟩:=h2;subst e
 
 have cf:∀{H':Hp},(∀b∈fp,H' b=none)->∀b∈fp,Dy X zd H' b:=λhn b hb=>⟨hn b hb,(f2 b hb).2⟩;refine codeAny_forLoop_any (λn s'=>∃i σ' H',Inv X zd σ' H' s'/\tn i s'.heap/\(∀b∈fp,H' b=none)/\W i n σ' H') ?_ m0 ⟨0,σ,H2,I2,st2,λb hb=>(f2 b hb).1,w0⟩
 rintro n s3 ⟨i,σ3,H3,I3,st3,fr3,w3⟩
 rcases turn i n σ3 H3 w3 with⟨stop,qn⟩|⟨go,N,hN,step⟩
 ·refine wpAny_passesOwn hp (Bi (T.done X rfl rfl rfl hc i zd s3 σ3 H3 X.xe I3 (cf fr3) st3 stop) λr s4 ⟨hr,I4⟩=> ?_);subst hr;exact wpAny_execs_nil ⟨σ3,H3,I4,qn⟩
 ·refine wpAny_passesOwn hp (Bi (T.item X rfl rfl rfl hc i zd s3 σ3 H3 X.xe I3 (cf fr3) st3 go) λr s4 ⟨u,hr,h4⟩=> ?_);subst hr;refine wpAny_passesOwn hp (Bi h4 λ_ s5 ⟨x,H5,I5,r5,y5,st5,fr5⟩=> ?_);have I5':=I5.pinned (cf fr5) (T.obj _ _ st5);refine wpAny_passesOwn hp (Bi (hg _ s5 σ3 H5 x u _ I5' r5 (step x H5 y5)) λ_ s6 ⟨σ6,H6,I6,q6⟩=> ?_);refine wpAny_passesOwn hp (Bi (hb _ s6 σ6 H6 _ I6 q6) λf s7 q7=> ?_);have again:∀{σ7:St} {H7:Hp},Inv X (zd ++ bc_6 fp s5.heap) σ7 H7 s7->N σ7 H7->∃m,m < n/\∃i σ' H',Inv X zd σ' H' s7/\tn i s7.heap/\(∀b∈fp,H' b=none)/\W i m σ' H':=λ{σ7 H7} I7 n7=>by
   obtain⟨m',hm,w7⟩:=hN σ7 H7 n7;refine⟨m',hm,i + 1,σ7,H7,I7.unpinned,T.keep _ _ _ st5 λb hb o e=>(I7.pin (b,o) (List.mem_append_right _ (List.mem_append_right _ (ad_6 hb e)))).1,λb hb=> ?_,w7⟩;obtain⟨o,e,d⟩:=T.obj _ _ st5 b hb;exact(I7.pin (b,o) (List.mem_append_right _ (List.mem_append_right _ (ad_6 hb e)))).2.1
  cases f with
  |next=>obtain⟨σ7,H7,I7,n7⟩:=q7;exact again I7 n7
  |cont=>obtain⟨σ7,H7,I7,n7⟩:=q7;exact again I7 n7
  |brk=>obtain⟨σ7,H7,I7,q7⟩:=q7;exact⟨σ7,H7,I7.unpinned,q7⟩
  |ret v=>obtain⟨x7,σ7,H7,I7,r7,q7⟩:=q7;exact⟨x7,σ7,H7,I7.unpinned,r7,q7⟩
end
abbrev R2:=V->V->Hp->VK->Prop
def Ea(X:Cx)(f:Value->Value->Sem Value)(r:R2):Prop:=
 ∀(zd:List (Addr×Obj)) (s:Shared) (σ:St) (H:Hp) (x y:V) (v u:Value) (Q:VK),Inv X zd σ H s->RelV x v->RelV y u->r x y H Q->
  wpAny (model X.prog X.w) X.A (f v u) (EP X zd σ Q) X.xe s
def Eh(X:Cx)(f:Value)(r:List V->Hp->VK->Prop):Prop:=
 ∀(zd:List (Addr×Obj)) (s:Shared) (σ:St) (H:Hp) (xs:List V) (us:List Value) (Q:VK),Inv X zd σ H s->Vals xs us->r xs H Q->
  wpAny (model X.prog X.w) X.A (call f us) (EP X zd σ Q) X.xe s
def TruR(X:Cx)(r:V->Hp->(Bool->Hp->Prop)->Prop):Prop:=
 ∀(zd:List (Addr×Obj)) (s:Shared) (σ:St) (H:Hp) (x:V) (v:Value) (Q:Bool->Hp->Prop),Inv X zd σ H s->RelV x v->r x H Q->
  wpAny (model X.prog X.w) X.A (truthy v) (TP X zd σ Q) X.xe s
def tOp(r:R2)(ta tb:TE):TE:=λ σ H Q=>ta σ H λx H1=>tb σ H1 λy H2=>r x y H2 Q
def rI(C:Int->Int->Prop)(g:Int->Int->V):R2:=λx y H Q=>∃i j,x=.int i/\y=.int j/\C i j/\Q (g i j) H
def rI0(g:Int->Int->V):R2:=λx y H Q=>∃i j,x=.int i/\y=.int j/\Q (g i j) H
section
variable{X:Cx}{a b c:Expr}{ta tb tc:TE}{pos:Pos}
def binT(ha:PE X a ta)(hb:PE X b tb){zd:List (Addr×Obj)}{s:Shared}{σ:St}{H:Hp}{R:V->V->Hp->Prop}(I:Inv X zd σ H s)
  (h:ta σ H λx H1=>tb σ H1 λy H2=>R x y H2) {Q:Value->Shared->Prop} {f:Value->Value->Sem Value}
  (hf:∀v u s2 x y H2,Inv X zd σ H2 s2->RelV x v->RelV y u->R x y H2->wpAny (model X.prog X.w) X.A (f v u) Q X.xe s2):
  wpAny (model X.prog X.w) X.A (eval a X.env) (λv s₁=>wpAny (model X.prog X.w) X.A (eval b X.env) (λu s₂=>wpAny (model X.prog X.w) X.A (f v u) Q X.xe s₂) X.xe s₁) X.xe s:=by
 refine Bi (ha zd s σ H _ I h) λv s1 ⟨x,H1,I1,r1,q1⟩=> ?_;refine Bi (hb zd s1 σ H1 _ I1 q1) λu s2 ⟨y,H2,I2,r2,q2⟩=> ?_;exact hf v u s2 x y H2 I2 r1 r2 q2
def dv_7{op:Operator}{r:R2}(ho:Ea X (binaryOp op) r)(ha:PE X a ta)(hb:PE X b tb):PE X (.BinOp a op b pos) (tOp r ta tb):=by
 intro zd s σ H Q I h;exact wpAny_BinOp (binT ha hb I h λv u s2 x y H2 I2 rx ry q=>ho zd s2 σ H2 x y v u Q I2 rx ry q)
def opI{f:Value->Value->Sem Value}{C:Int->Int->Prop}{g:Int->Int->Int}
  (rule:∀(i j:Int) (t u:Tok) (s:Shared) (Q:Value->Shared->Prop) (E:Value->Shared->Prop),C i j->Q (.int (g i j) s.toks) {s with toks:=s.toks + 1}->wpAny (model X.prog X.w) X.A (f (.int i t) (.int j u)) Q E s):
  Ea X f (rI C λi j=> .int (g i j)):=by
 intro zd s σ H x y v u Q I rx ry h;obtain⟨i,j,rfl,rfl,hc,q⟩:=h;obtain⟨t,rfl⟩:=rx;obtain⟨t',rfl⟩:=ry;exact rule i j t t' s _ _ hc ⟨.int (g i j),H,I.tok _,⟨_,rfl⟩,q⟩
def opI0{f:Value->Value->Sem Value}{g:Int->Int->Int}
  (rule:∀(i j:Int) (t u:Tok) (s:Shared) (Q:Value->Shared->Prop) (E:Value->Shared->Prop),Q (.int (g i j) s.toks) {s with toks:=s.toks + 1}->wpAny (model X.prog X.w) X.A (f (.int i t) (.int j u)) Q E s):
  Ea X f (rI0 λi j=> .int (g i j)):=by
 intro zd s σ H x y v u Q I rx ry h;obtain⟨i,j,rfl,rfl,q⟩:=h;obtain⟨t,rfl⟩:=rx;obtain⟨t',rfl⟩:=ry;exact rule i j t t' s _ _ ⟨.int (g i j),H,I.tok _,⟨_,rfl⟩,q⟩
def opB0{f:Value->Value->Sem Value}{g:Int->Int->Bool}
  (rule:∀(i j:Int) (t u:Tok) (s:Shared) (Q:Value->Shared->Prop) (E:Value->Shared->Prop),Q (.bool (g i j)) s->wpAny (model X.prog X.w) X.A (f (.int i t) (.int j u)) Q E s):
  Ea X f (rI0 λi j=> .bl (g i j)):=by
 intro zd s σ H x y v u Q I rx ry h;obtain⟨i,j,rfl,rfl,q⟩:=h;obtain⟨t,rfl⟩:=rx;obtain⟨t',rfl⟩:=ry;exact rule i j t t' s _ _ ⟨.bl (g i j),H,I,rfl,q⟩
def CPow(i j:Int):Prop:=0<=j/\j<=1000000/\i.natAbs < 2 ^ 64
def CMul(i j:Int):Prop:=(-(2 ^ 64) < i/\i < 2 ^ 64)\/(-(2 ^ 64) < j/\j < 2 ^ 64)
def CMul.ok{i j:Int}(h:CMul i j):IntMulOk i j:=by
 rcases h with⟨h1,h2⟩|⟨h1,h2⟩
 ·exact .of_left (intBits_le_64 h1 h2)
 ·exact .of_right (intBits_le_64 h1 h2)
def dz_0:Ea X (binaryOp .Add) (rI0 λi j=> .int (i + j)):=opI0 λ_ _ _ _ _ _ _ q=>add_int q
def dz_1:Ea X (binaryOp .Mult) (rI CMul λi j=> .int (i * j)):=opI λ_ _ _ _ _ _ _ hc q=>mul_int q hc.ok
def dz_2:Ea X (binaryOp .Mod) (rI (λ_ j=>0 < j) λi j=> .int (i % j)):=opI λi j _ _ _ _ _ hc q=>by
 have h1:(0:Int) < j:=hc;exact mod_int' (by omega) (by rw [Int.fmod_eq_emod_of_nonneg i (by omega)];exact q)
def dz_3:Ea X (binaryOp .Pow) (rI CPow λi j=> .int (i ^ j.toNat)):=opI λ_ _ _ _ _ _ _ hc q=>pow_int_small hc.1 hc.2.1 hc.2.2 q
end
def scal:V->V->Bool
 | .non,.non=>true| .non,.int _=>true| .int _,.non=>true| .non,.bl _=>true| .bl _,.non=>true| .non,.str _=>true| .str _,.non=>true
 | .int _,.int _=>true| .bl _,.bl _=>true| .str _,.str _=>true| .byt _,.byt _=>true
 | .int _,.str _=>true| .str _,.int _=>true| .bl _,.str _=>true| .str _,.bl _=>true
 |_,_=>false
def rEq:R2:=λx y H Q=>scal x y=true/\Q (.bl (decide (x=y))) H
def rNe:R2:=λx y H Q=>scal x y=true/\Q (.bl (!decide (x=y))) H
def cp_4{i j:Int}:decide (V.int i=V.int j)=(i ==j):=by
 rw [Bool.eq_iff_iff];simp
def db_2{i j:Bool}:decide (V.bl i=V.bl j)=(i ==j):=by
 rw [Bool.eq_iff_iff];simp
def cp_5{i j:Str}:decide (V.str i=V.str j)=(i ==j):=by
 rw [Bool.eq_iff_iff];simp
def cp_6{i j:Array UInt8}:decide (V.byt i=V.byt j)=(i.toList ==j.toList):=by
 rw [Bool.eq_iff_iff];cases i;cases j;simp
section
variable{X:Cx}{a b c:Expr}{ta tb tc:TE}{pos:Pos}
def Dm{zd:List (Addr×Obj)}{σ:St}{H:Hp}{s:Shared}{Q:VK}{k k':Bool}(I:Inv X zd σ H s)(q:Q (.bl k) H)(e:k=k'):EP X zd σ Q (.bool k') s:=by
 subst e;exact⟨.bl k,H,I,rfl,q⟩
def eg_5:Ea X (compareOp .Eq) rEq:=by
 intro zd s σ H x y v u Q I rx ry h;obtain⟨hs,q⟩:=h;cases x with
 |non=>
  cases rx;cases y with
  |non=>cases ry;exact PySem.EqNone.eq_none_none (Dm I q (by simp))
  |bl j=>cases ry;exact PySem.EqNone.eq_none_bool (Dm I q (by simp))
  |int j=>obtain⟨t',rfl⟩:=ry;exact PySem.EqNone.eq_none_int (Dm I q (by simp))
  |str j=>obtain⟨t',rfl⟩:=ry;exact PySem.EqNone.eq_none_str (Dm I q (by simp))
  |_=>exact absurd (show false=true from hs) Bool.false_ne_true
 |bl i=>
  cases rx;cases y with
  |non=>cases ry;exact PySem.EqNone.eq_bool_none (Dm I q (by simp))
  |bl j=>cases ry;exact eq_bool (Dm I q db_2)
  |str j=>obtain⟨t',rfl⟩:=ry;exact PySem.EqMixed.eq_bool_str (Dm I q (by simp))
  |_=>exact absurd (show false=true from hs) Bool.false_ne_true
 |int i=>
  obtain⟨t,rfl⟩:=rx;cases y with
  |non=>cases ry;exact PySem.EqNone.eq_int_none (Dm I q (by simp))
  |int j=>obtain⟨t',rfl⟩:=ry;exact eq_int (Dm I q cp_4)
  |str j=>obtain⟨t',rfl⟩:=ry;exact PySem.EqMixed.eq_int_str (Dm I q (by simp))
  |_=>exact absurd (show false=true from hs) Bool.false_ne_true
 |str i=>
  obtain⟨t,rfl⟩:=rx;cases y with
  |non=>cases ry;exact PySem.EqNone.eq_str_none (Dm I q (by simp))
  |bl j=>cases ry;exact PySem.EqMixed.eq_str_bool (Dm I q (by simp))
  |int j=>obtain⟨t',rfl⟩:=ry;exact PySem.EqMixed.eq_str_int (Dm I q (by simp))
  |str j=>obtain⟨t',rfl⟩:=ry;exact eq_str (Dm I q cp_5)
  |_=>exact absurd (show false=true from hs) Bool.false_ne_true
 |byt i=>
  obtain⟨t,rfl⟩:=rx;cases y with
  |byt j=>obtain⟨t',rfl⟩:=ry;exact eq_bytes (Dm I q cp_6)
  |_=>exact absurd (show false=true from hs) Bool.false_ne_true
 |_=>cases y <;> exact absurd (show false=true from hs) Bool.false_ne_true
def eg_6:Ea X (compareOp .NotEq) rNe:=by
 intro zd s σ H x y v u Q I rx ry h;obtain⟨hs,q⟩:=h;cases x with
 |non=>
  cases rx;cases y with
  |non=>cases ry;exact PySem.EqNone.ne_none_none (Dm I q (by simp))
  |bl j=>cases ry;exact PySem.EqNone.ne_none_bool (Dm I q (by simp))
  |int j=>obtain⟨t',rfl⟩:=ry;exact PySem.EqNone.ne_none_int (Dm I q (by simp))
  |str j=>obtain⟨t',rfl⟩:=ry;exact PySem.EqNone.ne_none_str (Dm I q (by simp))
  |_=>exact absurd (show false=true from hs) Bool.false_ne_true
 |bl i=>
  cases rx;cases y with
  |non=>cases ry;exact PySem.EqNone.ne_bool_none (Dm I q (by simp))
  |bl j=>cases ry;exact ne_bool (Dm I q (congrArg not db_2))
  |str j=>obtain⟨t',rfl⟩:=ry;exact PySem.EqMixed.ne_bool_str (Dm I q (by simp))
  |_=>exact absurd (show false=true from hs) Bool.false_ne_true
 |int i=>
  obtain⟨t,rfl⟩:=rx;cases y with
  |non=>cases ry;exact PySem.EqNone.ne_int_none (Dm I q (by simp))
  |int j=>obtain⟨t',rfl⟩:=ry;exact ne_int (Dm I q (congrArg not cp_4))
  |str j=>obtain⟨t',rfl⟩:=ry;exact PySem.EqMixed.ne_int_str (Dm I q (by simp))
  |_=>exact absurd (show false=true from hs) Bool.false_ne_true
 |str i=>
  obtain⟨t,rfl⟩:=rx;cases y with
  |non=>cases ry;exact PySem.EqNone.ne_str_none (Dm I q (by simp))
  |bl j=>cases ry;exact PySem.EqMixed.ne_str_bool (Dm I q (by simp))
  |int j=>obtain⟨t',rfl⟩:=ry;exact PySem.EqMixed.ne_str_int (Dm I q (by simp))
  |str j=>obtain⟨t',rfl⟩:=ry;exact ne_str (Dm I q (congrArg not cp_5))
  |_=>exact absurd (show false=true from hs) Bool.false_ne_true
 |byt i=>
  obtain⟨t,rfl⟩:=rx;cases y with
  |byt j=>obtain⟨t',rfl⟩:=ry;exact ne_bytes (Dm I q (congrArg not cp_6))
  |_=>exact absurd (show false=true from hs) Bool.false_ne_true
 |_=>cases y <;> exact absurd (show false=true from hs) Bool.false_ne_true
def eg_7:Ea X (compareOp .Lt) (rI0 λi j=> .bl (decide (i < j))):=opB0 λ_ _ _ _ _ _ _ q=>lt_int q
def eg_8:Ea X (compareOp .LtE) (rI0 λi j=> .bl (decide (i<=j))):=opB0 λ_ _ _ _ _ _ _ q=>le_int q
def eg_9:Ea X (compareOp .Gt) (rI0 λi j=> .bl (decide (j < i))):=opB0 λ_ _ _ _ _ _ _ q=>gt_int q
def eh_0:Ea X (compareOp .GtE) (rI0 λi j=> .bl (decide (j<=i))):=opB0 λ_ _ _ _ _ _ _ q=>ge_int q
def cu_7:Ea X (compareOp .In) (λx y H Q=>∃i j,x=.str i/\y=.str j/\Q (.bl (!(Builtin.Str.occurrences j i 0 j.length 1).isEmpty)) H):=by
 intro zd s σ H x y v u Q I rx ry h;obtain⟨i,j,rfl,rfl,q⟩:=h;obtain⟨t,rfl⟩:=rx;obtain⟨t',rfl⟩:=ry;exact in_str (Dm I q rfl)
def dn_1:Ea X (compareOp .IsNot) (λx y H Q=>y=.non/\Q (.bl (!decide (x=.non))) H):=by
 intro zd s σ H x y v u Q I rx ry h;obtain⟨rfl,q⟩:=h;cases ry;refine isnot_none_gen (Dm I q ?_);cases x <;> first
  |(cases rx;rfl)
  |(obtain⟨t,rfl⟩:=rx;rfl)
def Cp(b:Expr){op:CmpOp}(h:op≠ .In:=by decide)(h2:op≠ .NotIn:=by decide):behindInMarks op b=false:=by
 have e1:(op ==CmpOp.In)=false:=by cases op <;> first|rfl|exact absurd rfl h
 have e2:(op ==CmpOp.NotIn)=false:=by cases op <;> first|rfl|exact absurd rfl h2
 cases b <;> simp [behindInMarks,e1,e2]
def dn_2{op:CmpOp}{r:R2}(ho:Ea X (compareOp op) r)(ha:PE X a ta)(hb:PE X b tb)(hm:behindInMarks op b=false):PE X (.Compare a [op] [b] pos) (tOp r ta tb):=by
 intro zd s σ H Q I h;exact wpAny_Compare1 (binT ha hb I h λv u s2 x y H2 I2 rx ry q=>ho zd s2 σ H2 x y v u Q I2 rx ry q) hm
def eh_1(t:TE):TT:=λ σ H Q=>t σ H λx H'=>∃k,x=.bl k/\Q k H'
def dn_3{op:CmpOp}{r:R2}(ho:Ea X (compareOp op) r)(ha:PE X a ta)(hb:PE X b tb)(hm:behindInMarks op b=false):PT X (.Compare a [op] [b] pos) (eh_1 (tOp r ta tb)):=by
 intro zd s σ H Q I h;refine wpAny_isTrue_Compare1 (Bi (ha zd s σ H _ I h) λv s1 ⟨x,H1,I1,r1,q1⟩=>Bi (hb zd s1 σ H1 _ I1 q1) λu s2 ⟨y,H2,I2,r2,q2⟩=>
  Bi (ho zd s2 σ H2 x y v u _ I2 r1 r2 q2) λc s3 ⟨z,H3,I3,r3,k,e,q3⟩=> ?_) hm
 subst e;cases r3;exact wpAny_truthy_bool ⟨H3,I3,q3⟩
def db_3(r r':R2)(ta tb tc:TE):TE:=λ σ H Q=>ta σ H λx H1=>tb σ H1 λy H2=>r x y H2 λz H3=>∃k,z=.bl k/\
 (if k=true then tc σ H3 λw' H4=>r' y w' H4 Q else Q (.bl false) H3)
def db_4{op op':CmpOp}{r r':R2}(ho:Ea X (compareOp op) r)(ho':Ea X (compareOp op') r')(ha:PE X a ta)(hb:PE X b tb)(hc:PE X c tc)
  (hm:lastMarks [op,op'] [b,c]=false:=by with_unfolding_all rfl):PE X (.Compare a [op,op'] [b,c] pos) (db_3 r r' ta tb tc):=by
 intro zd s σ H Q I h;refine Compare_chain (Bi (ha zd s σ H _ I h) λv s1 ⟨x,H1,I1,r1,q1⟩=>chain_link (Bi (hb zd s1 σ H1 _ I1 q1) λu s2 ⟨y,H2,I2,r2,q2⟩=>
  Bi (ho zd s2 σ H2 x y v u _ I2 r1 r2 q2) λd s3 ⟨z,H3,I3,r3,k,e,q3⟩=> ?_)) hm
 subst e;cases r3;refine wpAny_truthy_bool ?_;cases k with
 |false=>exact ite_ff ⟨.bl false,H3,I3,rfl,q3⟩
 |true=>exact ite_tt (chain_last (Bi (hc zd s3 σ H3 _ I3 q3) λw' s4 ⟨z',H4,I4,r4,q4⟩=>ho' zd s4 σ H4 y z' u w' Q I4 r2 r4 q4))
def TruV(K:Frag)(x:V)(H:Hp)(k:Bool):Prop:=
 match x with
 | .non=>k=false
 | .bl b=>k=b
 | .int i=>k=(i != 0)
 | .str y=>y.length<=sizeLine/\k=((y.length:Int) != 0)
 | .byt y=>y.size<=sizeLine/\k=((y.size:Int) != 0)
 | .ref p=>(∃xs,SqL K H p xs/\k= !xs.isEmpty)\/(∃xs,SqT K H p xs/\k= !xs.isEmpty)\/∃kvs,H p=some (.dK kvs)/\k= !kvs.isEmpty
 |_=>False
def cj_2{κ:Type}{kvs:List (κ×V)}{vs:List (κ×Value)}(r:KV kvs vs):(!vs.isEmpty)= !kvs.isEmpty:=by
 cases r <;> rfl
def bc_7{xs:List V}{its:List Value}(r:Vals xs its):(!its.toArray.isEmpty)= !xs.isEmpty:=by
 cases r <;> simp
def ao_1:(sizeLine:Nat) < 2 ^ 63:=by rw [sizeLine_eq];decide
def dz_5:TruR X (λx H Q=>∃k,TruV X.K x H k/\Q k H):=by
 intro zd s σ H x v Q I rx h;obtain⟨k,e,q⟩:=h;have hl:=ao_1;have hs:sizeLine=16777216:=sizeLine_eq;cases x with
 |non=>
  cases rx;have e':k=false:=e;subst e';exact truthy_none ⟨H,I,q⟩
 |bl b=>
  cases rx;have e':k=b:=e;subst e';exact wpAny_truthy_bool ⟨H,I,q⟩
 |int i=>
  obtain⟨t,rfl⟩:=rx;have e':k=(i != 0):=e;subst e';exact PySem.P.truthy_int ⟨H,I,q⟩
 |str y=>
  obtain⟨t,rfl⟩:=rx;obtain⟨hy,e'⟩:y.length<=sizeLine/\k=((y.length:Int) != 0):=e;subst e';exact PySem.P.truthy_str (by omega) ⟨H,I.tok _,q⟩
 |byt y=>
  obtain⟨t,rfl⟩:=rx;obtain⟨hy,e'⟩:y.size<=sizeLine/\k=((y.size:Int) != 0):=e;subst e';exact truthy_bytes (by omega) ⟨H,I.tok _,q⟩
 |ref p=>
  cases rx;have e':(∃xs,SqL X.K H p xs/\k= !xs.isEmpty)\/(∃xs,SqT X.K H p xs/\k= !xs.isEmpty)\/∃kvs,H p=some (.dK kvs)/\k= !kvs.isEmpty:=e;rcases e' with⟨xs,hx,e'⟩|⟨xs,hx,e'⟩|⟨kvs,hx,e'⟩
  ·subst e';obtain⟨its,r,pl,hz⟩:=I.list hx;have zm:=r.length;exact wpAny_truthy_list pl.isList (by simp only [List.size_toArray];omega) ⟨H,I.tok _,by rw [bc_7 r];exact q⟩
  ·subst e';obtain⟨its,r,pl,hz⟩:=I.tuple hx;have zm:=r.length;exact truthy_tuple pl (by simp only [List.size_toArray];omega) ⟨H,I.tok _,by rw [bc_7 r];exact q⟩
  ·subst e';obtain⟨hz,hS,vs,r,m⟩:kvs.length<=sizeLine/\(p ==sysModules)=false/\∃vs,KV kvs vs/\s.heap.DictOf (i_9 X.prog X.w) p vs:=I.hok p _ hx;have zm:kvs.length=vs.length:=Paired.length r;exact wpAny_truthy_dict hS m (by omega) ⟨H,I.tok _,by rw [cj_2 r];exact q⟩
 |_=>exact(show False from e).elim
def db_5(ha:PE X a ta)(he:∀whole,isTrue a X.env whole=(do let v<-whole;standAt a.pos;holding [v] (truthy v))):
  PT X a (λ σ H Q=>ta σ H λx H'=>∃k,TruV X.K x H' k/\Q k H'):=by
 intro zd s σ H Q I h;exact isTrue_plain (Bi (ha zd s σ H _ I h) λv s1 ⟨x,H1,I1,r1,q1⟩=>dz_5 zd s1 σ H1 x v Q I1 r1 q1) (he _)
def cj_3:Ea X (binaryOp .Add) (λx y H Q=>∃i j,x=.str i/\y=.str j/\i.length + j.length<=sizeLine/\Q (.str (i ++ j)) H):=by
 intro zd s σ H x y v u Q I rx ry h;obtain⟨i,j,rfl,rfl,hz,q⟩:=h;obtain⟨t,rfl⟩:=rx;obtain⟨t',rfl⟩:=ry;exact add_str (λt' tk=>⟨.str (i ++ j),H,I.tok _,⟨_,rfl⟩,q⟩) hz
def bc_8{x:V}{us:List Value}(r:Vals [x] us):∃u,us= [u]/\RelV x u:=by
 cases r with
 |cons r1 r2=>cases r2;exact⟨_,rfl,r1⟩
def dv_8{x y:V}{us:List Value}(r:Vals [x,y] us):∃u w',us= [u,w']/\RelV x u/\RelV y w':=by
 cases r with
 |cons r1 r2=>
  cases r2 with
  |cons r3 r4=>cases r4;exact⟨_,_,rfl,r1,r3⟩
def cu_8(hc:X.calm=true):Eh X (.builtin "max") (λxs H Q=>∃i j,xs= [.int i,.int j]/\Q (.int (if j > i then j else i)) H):=by
 intro zd s σ H xs us Q I r h;obtain⟨i,j,rfl,q⟩:=h;obtain⟨u,w',rfl,⟨t,rfl⟩,⟨t',rfl⟩⟩:=dv_8 r;refine max_two_ints (I.ok.hd hc) λh' tk k=>⟨_,H,I.kept k, ?_,q⟩
 by_cases hj:j > i
 ·rw [if_pos hj,if_pos hj];exact⟨_,rfl⟩
 ·rw [if_neg hj,if_neg hj];exact⟨_,rfl⟩
def cu_9(hc:X.calm=true):Eh X (.builtin "min") (λxs H Q=>∃i j,xs= [.int i,.int j]/\Q (.int (if j < i then j else i)) H):=by
 intro zd s σ H xs us Q I r h;obtain⟨i,j,rfl,q⟩:=h;obtain⟨u,w',rfl,⟨t,rfl⟩,⟨t',rfl⟩⟩:=dv_8 r;refine min_two_ints (I.ok.hd hc) λh' tk k=>⟨_,H,I.kept k, ?_,q⟩
 by_cases hj:j < i
 ·rw [if_pos hj,if_pos hj];exact⟨_,rfl⟩
 ·rw [if_neg hj,if_neg hj];exact⟨_,rfl⟩
def bl_6:Eh X (.type "int") (λxs H Q=>(∃i,xs= [.int i]/\Q (.int i) H)\/∃k,xs= [.bl k]/\Q (.int (if k then 1 else 0)) H):=by
 intro zd s σ H xs us Q I r h;rcases h with⟨i,rfl,q⟩|⟨k,rfl,q⟩
 ·obtain⟨u,rfl,t,rfl⟩:=bc_8 r;exact call_int_int ⟨.int i,H,I,⟨_,rfl⟩,q⟩
 ·obtain⟨u,rfl,r1⟩:=bc_8 r;cases r1;exact call_int_bool ⟨.int (if k then 1 else 0),H,I.tok _,⟨_,rfl⟩,q⟩
def br_1:Eh X (.type "str") (λxs H Q=>∃i,xs= [.int i]/\i.natAbs.log2 < 1920/\Q (.str (toString i)) H):=by
 intro zd s σ H xs us Q I r h;obtain⟨i,rfl,hz,q⟩:=h;obtain⟨u,rfl,t,rfl⟩:=bc_8 r;exact PySem.P.str_of_int hz ⟨.str _,H,I.tok _,⟨_,rfl⟩,q⟩
end
structure ObjM(h:Heap)(x dx C:Addr)(mA:Str->Option Value):Prop where
 obj:h.get? x=some (instObj C dx)
 ns:h.Ns1 dx mA
 ne:dx≠x
def cv_0{h:Heap}{dx:Addr}{mA:Str->Option Value}(n:h.Ns1 dx mA):∃od,h.get? dx=some od/\∀name,lookIn name od=some (mA name):=by
 obtain⟨o,es,ep,ho,hd,hk,_,hm⟩:=n;refine⟨o,ho,λname=> ?_⟩;have e:=hm name;unfold nsFind findBy at e;rw [<-Array.find?_toList] at e;unfold lookIn;rw [hd];dsimp only
 split
 ·rename_i y q;rw [q] at e;exact congrArg some e
 ·rename_i q;rw [q] at e;have a:es.toList.any (·.refKey)=false:=by
   rw [List.any_eq_false];intro y hy;obtain⟨z,t,ej⟩:=hk y (Array.mem_toList_iff.mp hy);simp [DictEntry.refKey,ej]
  have a':¬es.toList.any (·.refKey)=true:=by rw [a];exact Bool.false_ne_true
  rw [if_neg a'];exact congrArg some e
def ObjM.look{h:Heap}{x dx C:Addr}{mA:Str->Option Value}(I:ObjM h x dx C mA):∃od,InstAt h x (instObj C dx) C (some od)/\∀name,lookIn name od=some (mA name):=
 let⟨od,ho,hl⟩:=cv_0 I.ns
 ⟨od,⟨I.obj,rfl,rfl,ho⟩,hl⟩
section
variable{prog:Program}{w:World}{A:Around}{E:Value->Shared->Prop}{s:Shared}{K:Frag}{x dx C f:Addr}{mA:Str->Option Value}{name:Str}{v:Value}
def dn_4{expr:Bool}{Q:Value->Shared->Prop}(X:K.In s.heap)(I:ObjM s.heap x dx C mA)(hg:plainGet K C name=true)(hh:hasDictIn K C=true)
  (ha:findIn K (.ref C) name=some none) (hv:mA name=some v) (hv':handedIn v=true) (h:Q v {s with toks:=s.toks + 1}):
  wpAny (model prog w) A (getAttr (.ref x) name expr) Q E s:=by
 obtain⟨od,J,hl⟩:=I.look;exact get_value X J (plainGet_of hg).1 (findObj_own hh ha rfl (by rw [hl,hv])) hv' h
def db_6{pl:Sem Bool}{Q:Value×List Value->Shared->Prop}(X:K.In s.heap)(I:ObjM s.heap x dx C mA)(hg:plainGet K C name=true)
  (hf:findIn K (.ref C) name=some (some (.ref f))) (ht:isFn K (.ref f)=true) (hv:mA name=none) (h:Q (.ref f,[.ref x]) s):
  wpAny (model prog w) A (getMethod (.ref x) name pl) Q E s:=by
 obtain⟨od,J,hl⟩:=I.look;exact method_fn X J (plainGet_of hg).1 (plainGet_of hg).2 hf (beq_iff_eq.mp ht) (by show(lookIn name od).map (·.isSome)=some false;rw [hl,hv];rfl) h
def dn_5{ns:List Str}{Q:Unit->Shared->Prop}(X:K.In s.heap)(I:ObjM s.heap x dx C mA)
  (hs:findIn K (.ref C) "__setattr__" =some (some (.builtin "object.__setattr__"))) (hp:plainOver K C=true) (ht:takerIn K C name=some none) (hh:hasDictIn K C=true)
  (hw:PySem.Within mA ns) (hsz:ns.length<=sizeLine)
  (h:∀h',ObjM h' x dx C (λy=>if y=name then some v else mA y)->Heap.SameBut dx s.heap h'->Q () {s with heap:=h',toks:=s.toks + 2}):
  wpAny (model prog w) A (setAttr (.ref x) name v) Q E s:=by
 obtain⟨od,J,hl⟩:=I.look;refine set_plain X J hs (osa_open (s:={s with toks:=s.toks + 1}) (r:=none) X J hp ht λb=> ?_);obtain⟨cd,hc,hd'⟩:=any_some hh;have hx:s.heap.get? x=some ⟨.ref C,some dx,.plain, #[]⟩:=I.obj;refine wpAny_bind (wpAny_pure (wpAny_bind (wpAny_bind (wpAny_loadPart hx (wpAny_bind (Looks.here (s:={s with toks:=s.toks + 1}) (looks_clsIn X hc) ?_))))));rw [hd'];refine wpAny_pure (a:=some dx) (wpAny_bind (wpAny_pure (wpAny_bind ?_)));refine wpAny_nsSet1 (s:={s with toks:=s.toks + 1}) I.ns λh' hn2 hs2=> ?_;obtain⟨oD,esD,epD,hoD,hdD,hcD⟩:=hn2.count (PySem.Within.cons name v hw);refine wpAny_bind (wpAny_lookBehind hoD (by rw [hdD];exact pastItsLine_dict (Nat.le_trans hcD (by rw [List.length_cons];omega))) ?_);exact wpAny_pure (h _ ⟨(hs2.2 _ (Ne.symm I.ne)).trans I.obj,hn2,I.ne⟩ hs2)
def db_7{R:Result->Shared->Prop}{vs:List Value}{kw:List (Str×Value)}(X:K.In s.heap)(hm:makesIn K C=true)
  (hi:findIn K (.ref C) "__init__" =some (some (.ref f))) (hf:typeIn K (.ref f)=some (.type "function"))
  (h:codeAny (model prog w) (A.under (.builtin "type.__call__" ⟨.ref C::vs,kw⟩)) (.call (.ref f) ⟨.ref (s.heap.objs.size + 1)::vs,kw⟩) (InitBack (s.heap.objs.size + 1) R)
   {s with heap:=(s.heap.push emptyDict).push (instObj C s.heap.objs.size)}):
  codeAny (model prog w) A (.call (.ref C) ⟨vs,kw⟩) R s:=by
 obtain⟨hh,g,d,t,os⟩:=s;exact make_core (makes_of X hm) (looks_findIn X hi) (λself=>bind_fn X self hf) (.inl rfl) h
end
def Cw(f:Str)(v:V):List (Str×V)->List (Str×V)
 | []=> [(f,v)]
 |(g,x)::r=>if g=f then(g,v)::r else(g,x)::Cw f v r
theorem aw_8(f g:Str)(v:V):∀fs:List (Str×V),(Cw f v fs).lookup g=if g=f then some v else fs.lookup g
 | []=>by
  show List.lookup g [(f,v)]=_
  by_cases h:g=f
  ·have hb:(g ==f)=true:=beq_iff_eq.mpr h;simp only [List.lookup,hb,if_pos h]
  ·have hb:(g ==f)=false:=beq_eq_false_iff_ne.mpr h;simp only [List.lookup,hb,if_neg h]
 |(k,x)::r=>by
  have ih:=aw_8 f g v r;rw [show Cw f v ((k,x)::r)=(if k=f then(k,v)::r else(k,x)::Cw f v r) from rfl]
  by_cases hk:k=f
  ·rw [if_pos hk]
   by_cases h:g=k
   ·have hb:(g ==k)=true:=beq_iff_eq.mpr h;simp only [List.lookup,hb,if_pos (h.trans hk)]
   ·have hb:(g ==k)=false:=beq_eq_false_iff_ne.mpr h;simp only [List.lookup,hb,if_neg (λe:g=f=>h (e.trans hk.symm))]
  ·rw [if_neg hk]
   by_cases h:g=k
   ·have hb:(g ==k)=true:=beq_iff_eq.mpr h;simp only [List.lookup,hb,if_neg (λe:g=f=>hk (h.symm.trans e))]
   ·have hb:(g ==k)=false:=beq_eq_false_iff_ne.mpr h;simp only [List.lookup,hb];exact ih
theorem at_8(f:Str)(v:V):∀fs:List (Str×V),f∈(Cw f v fs).map (·.1)/\∀g,g∈fs.map (·.1)->g∈(Cw f v fs).map (·.1)
 | []=>⟨by simp [Cw],λg h=>by simp at h⟩
 |(k,x)::r=>by
  obtain⟨i1,i2⟩:=at_8 f v r;rw [show Cw f v ((k,x)::r)=(if k=f then(k,v)::r else(k,x)::Cw f v r) from rfl]
  by_cases hk:k=f
  ·rw [if_pos hk];subst hk;exact⟨by simp,λg h=>by simpa using h⟩
  ·rw [if_neg hk];refine⟨?_,λg h=> ?_⟩
   ·rw [List.map_cons];exact List.mem_cons_of_mem _ i1
   ·rw [List.map_cons] at h⊢;rcases List.mem_cons.mp h with e|e
    ·exact List.mem_cons.mpr (.inl e)
    ·exact List.mem_cons_of_mem _ (i2 g e)
theorem aw_9(f:Str)(v:V):∀fs:List (Str×V),(Cw f v fs).length<=fs.length + 1
 | []=>by simp [Cw]
 |(k,x)::r=>by
  have ih:=aw_9 f v r;rw [show Cw f v ((k,x)::r)=(if k=f then(k,v)::r else(k,x)::Cw f v r) from rfl]
  by_cases hk:k=f
  ·rw [if_pos hk,List.length_cons,List.length_cons];omega
  ·rw [if_neg hk,List.length_cons,List.length_cons];omega
def RelO.some_of{v:V}{o:Option Value}(r:RelO (some v) o):∃u,o=some u/\RelV v u:=by
 cases o with
 |none=>exact(show False from r).elim
 |some u=>exact⟨u,rfl,r⟩
def RelO.none_of{o:Option Value}(r:RelO none o):o=none:=by
 cases o with
 |none=>rfl
 |some u=>exact(show False from r).elim
def cv_1{v:V}{u:Value}(r:RelV v u):handedIn u=true:=by
 cases v with
 |non=>cases(show u=Value.none from r);rfl
 |bl b=>cases(show u=Value.bool b from r);rfl
 |int i=>obtain⟨t,e⟩:=(show∃t,u=Value.int i t from r);cases e;rfl
 |str x=>obtain⟨t,e⟩:=(show∃t,u=Value.str x t from r);cases e;rfl
 |byt b=>obtain⟨t,e⟩:=(show∃t,u=Value.bytes b t from r);cases e;rfl
 |flt b=>obtain⟨t,e⟩:=(show∃t,u=Value.float b t from r);cases e;rfl
 |ref a=>cases(show u=Value.ref a from r);rfl
 |ty n=>cases(show u=Value.type n from r);rfl
section
variable{P:Program}{w:World}{H H':Hp}{h h':Heap}{a C dx:Addr}{fs fs':List (Str×V)}
def br_2(hok:HOk P w H h)(e:H a=some (.ins C dx fs)):∃mA,ObjM h a dx C mA/\(∀f,RelO (fs.lookup f) (mA f))/\PySem.Within mA (fs.map (·.1))/\fs.length<=1000/\H dx=some (.own a):=by
 obtain⟨d,z,ne,ob,mA,n,r,q⟩:=(show ObjOk P w H h a (.ins C dx fs) from hok a _ e);exact⟨mA,⟨ob,n,ne⟩,r,q,z,d⟩
end
structure Cls(K:Frag)(C:Addr):Prop where
 pg:plainGet K C Str.empty=true
 hd:hasDictIn K C=true
 po:plainOver K C=true
 sa:findIn K (.ref C) "__setattr__" =some (some (.builtin "object.__setattr__"))
def Cls.get{K:Frag}{C:Addr}(c:Cls K C)(f:Str):plainGet K C f=true:=c.pg
def NoAttr(K:Frag)(C:Addr)(f:Str):Prop:=findIn K (.ref C) f=some none
def NoAttr.taker{K:Frag}{C:Addr}{f:Str}(n:NoAttr K C f):takerIn K C f=some none:=by
 unfold takerIn;rw [show findIn K (.ref C) f=some none from n];rfl
structure Con(K:Frag)(C:Addr)(f:Str)(v:V)(u:Value):Prop where
 at_:findIn K (.ref C) f=some (some u)
 rel:RelV v u
 get:specialIn K u "__get__" =some none
 cp:PySem.W.copiedNames.contains f=false
structure Meth(K:Frag)(C:Addr)(m:Str)(f:Addr):Prop where
 at_:findIn K (.ref C) m=some (some (.ref f))
 fn:isFn K (.ref f)=true
 kp:keepIn K (.ref f)=true
section
variable{X:Cx}{zd:List (Addr×Obj)}{σ:St}{H:Hp}{s:Shared}{a C dx:Addr}{fs:List (Str×V)}{f:Str}{v:V}{A:Around}{E:Value->Shared->Prop}
def cj_4{b:Bool}{Q:Value->Shared->Prop}(I:Inv X zd σ H s)(e:H a=some (.ins C dx fs))(c:Cls X.K C)(n:NoAttr X.K C f)(l:fs.lookup f=some v)
  (h:∀u s',Inv X zd σ H s'->RelV v u->Q u s'):wpAny (model X.prog X.w) A (getAttr (.ref a) f b) Q E s:=by
 obtain⟨mA,O,r,_,_,_⟩:=br_2 I.hok e;obtain⟨u,hu,ru⟩:=RelO.some_of (v:=v) (o:=mA f) (by rw [<-l];exact r f);exact dn_4 I.kIn O (c.get f) c.hd n hu (cv_1 ru) (h u _ (I.tok _) ru)
def bc_9{m:Str}{g:Addr}{pl:Sem Bool}{Q:Value×List Value->Shared->Prop}(I:Inv X zd σ H s)(e:H a=some (.ins C dx fs))(c:Cls X.K C)(k:Meth X.K C m g)(l:fs.lookup m=none)
  (h:Q (.ref g,[.ref a]) s):wpAny (model X.prog X.w) A (getMethod (.ref a) m pl) Q E s:=by
 obtain⟨mA,O,r,_,_,_⟩:=br_2 I.hok e;have hn:mA m=none:=RelO.none_of (by rw [<-l];exact r m);exact db_6 I.kIn O (c.get m) k.at_ k.fn hn h
def cj_5{y:V}{u:Value}{Q:Unit->Shared->Prop}(I:Inv X zd σ H s)(e:H a=some (.ins C dx fs))(c:Cls X.K C)(n:NoAttr X.K C f)(hl:fs.length < 1000)(ry:RelV y u)
  (h:∀s',Inv X zd σ (upd H a (.ins C dx (Cw f y fs))) s'->Q () s'):wpAny (model X.prog X.w) A (setAttr (.ref a) f u) Q E s:=by
 obtain⟨mA,O,r,wi,_,ho⟩:=br_2 I.hok e;have hz:(fs.map (·.1)).length<=sizeLine:=by rw [List.length_map,sizeLine_eq];omega
 refine dn_5 I.kIn O c.sa c.po n.taker c.hd wi hz λh' O' sb=>h _ ?_;have hd:∃o,h'.get? dx=some o:=let⟨o,_,_,e',_⟩:=O'.ns;⟨o,e'⟩;refine I.write (x:=a) (e:=dx) (by rw [e];exact True.intro) (.inr ho) (λb q hb z=>(sb.2 b hb).trans z) hd ?_;refine⟨by rw [Bm O.ne];exact ho, ?_,O.ne,O'.obj,_,O'.ns,λg=> ?_,λg hg=> ?_⟩
 ·have:=aw_9 f y fs;omega
 ·show RelO ((Cw f y fs).lookup g) (if g=f then some u else mA g);rw [aw_8]
  by_cases q:g=f
  ·rw [if_pos q,if_pos q];exact ry
  ·rw [if_neg q,if_neg q];exact r g
 ·by_cases q:g=f
  ·rw [q];exact(at_8 f y fs).1
  ·refine(at_8 f y fs).2 g (wi g λz=>hg ?_);show(if g=f then some u else mA g)=none;rw [if_neg q];exact z
def Inv.made(I:Inv X zd σ H s):Inv X zd σ (upd (upd H s.heap.objs.size (.own (s.heap.objs.size + 1))) (s.heap.objs.size + 1) (.ins C s.heap.objs.size []))
  {s with heap:=(s.heap.push emptyDict).push (instObj C s.heap.objs.size)}:=by
 have e1:(s.heap.push emptyDict).get? s.heap.objs.size=some emptyDict:=Heap.get?_push_size s.heap rfl;have e2:((s.heap.push emptyDict).push (instObj C s.heap.objs.size)).get? (s.heap.objs.size + 1)=some (instObj C s.heap.objs.size):=by
  have:=Heap.get?_push_size (s.heap.push emptyDict) (o:=instObj C s.heap.objs.size) rfl
  rwa [Heap.size_push] at this
 have e3:(s.heap.push emptyDict).Ns s.heap.objs.size (λ_=>none):=⟨emptyDict, #[],_,e1,rfl,(λe he=>absurd he (by simp)),λ_=>rfl⟩;have I1:=I.laid (a:=s.heap.objs.size) (o:=.own (s.heap.objs.size + 1)) (h':=s.heap.push emptyDict) (t':=s.toks) (λb u q=>Heap.get?_push_of_some _ q) (Nat.le_refl _) ⟨_,e1⟩;refine I1.laid (a:=s.heap.objs.size + 1) (o:=.ins C s.heap.objs.size []) (t':=s.toks) (λb u q=>Heap.get?_push_of_some _ q) (Nat.le_of_eq (Heap.size_push _ _)) ?_;have ne:s.heap.objs.size≠s.heap.objs.size + 1:=Nat.ne_of_lt (Nat.lt_succ_self _);refine⟨by rw [Bm ne,Cs],Nat.zero_le _,ne,e2,λ_=>none,(Heap.Ns1.of_empty e3).at λo q=>Heap.get?_push_of_some _ q,λ_=>True.intro,λy hy=>absurd rfl hy⟩
def dn_6{prog:Program}{w:World}{env:Env}{e:Expr}{f:Str}{pos:Pos}{s:Shared}{Q:Value->Shared->Prop}(hb:attributeBase e f env (eval e env)=eval e env)
  (h:wpAny (model prog w) A (eval e env) (λo s₁=>wpAny (model prog w) A (getAttr o f true) Q E s₁) E s):wpAny (model prog w) A (eval (.Attribute e f pos) env) Q E s:=
 Attribute_any_ h (by rw [arm_eval_Attribute,hb])
end
def tFld(K:Frag)(ta:TE)(f:Str):TE:=λ σ H Q=>ta σ H λx H1=>∃a C dx fs v,x=.ref a/\H1 a=some (.ins C dx fs)/\Cls K C/\NoAttr K C f/\fs.lookup f=some v/\Q v H1
def sFld(K:Frag)(ta tv:TE)(f:Str):TS:=λD σ H=>tv σ H λy H1=>ta σ H1 λx H2=>∃a C dx fs,x=.ref a/\H2 a=some (.ins C dx fs)/\Cls K C/\NoAttr K C f/\fs.length < 1000/\
 D.nx σ (upd H2 a (.ins C dx (Cw f y fs)))
section
variable{X:Cx}{o e value:Expr}{f:Str}{pos pos' zj:Pos}{ta tv:TE}
def dz_6(he:PE X e ta)(hb:attributeBase e f X.env (eval e X.env)=eval e X.env):PE X (.Attribute e f pos) (tFld X.K ta f):=by
 intro zd s σ H Q I h;refine dn_6 hb (Bi (he zd s σ H _ I h) λu s1 ⟨x,H1,I1,rx,a,C,dx,fs,v,ex,ea,c,n,l,q⟩=> ?_);subst ex;obtain rfl:u=Value.ref a:=rx;exact cj_4 I1 ea c n l λu' s2 I2 ru=>⟨v,H1,I2,ru,q⟩
def dz_7(ha:PE X o ta)(hv:PE X value tv)(hs:swapsWith value (some (.Attribute o f pos')) pos.line X.env=pure false):PS X (.Assign [.Attribute o f pos'] value pos) (sFld X.K ta tv f):=by
 intro zd s σ H D I h;refine plainObj_wpAny_Assign_Attribute (Bi (hv zd s σ H _ I h) λu s1 ⟨y,H1,I1,ry,q⟩=>Bi (ha zd s1 σ H1 _ I1 q) λov s2 ⟨x,H2,I2,rx,a,C,dx,fs,ex,ea,c,n,l,q2⟩=> ?_) hs;subst ex;obtain rfl:ov=Value.ref a:=rx;exact cj_5 I2 ea c n l ry λs3 I3=>⟨σ,_,I3,q2⟩
end
section
variable{X:Cx}{zd:List (Addr×Obj)}{σ:St}{H:Hp}{s:Shared}{A:Around}{E:Value->Shared->Prop}{Q:Value->Shared->Prop}{c:Value}{b:Bool}
inductive TyOf(K:Frag)(H:Hp):V->Value->Prop where
 |non:TyOf K H .non (.type "NoneType")
 |bl (x:Bool):TyOf K H (.bl x) (.type "bool")
 |int (i:Int):TyOf K H (.int i) (.type "int")
 |str (x:Str):TyOf K H (.str x) (.type "str")
 |flt (x:UInt64):TyOf K H (.flt x) (.type "float")
 |lst {a:Addr} {xs:List V} (e:H a=some (.lst xs)):TyOf K H (.ref a) (.type "list")
 |frz {a:Addr} {o:Obj} {xs:List V} (e:H a=some (.frz o (.lst xs))):TyOf K H (.ref a) (.type "list")
 |tup {a:Addr} {xs:List V} (e:H a=some (.tup xs)):TyOf K H (.ref a) (.type "tuple")
 |dK {a:Addr} {kvs:List (At×V)} (e:H a=some (.dK kvs)):TyOf K H (.ref a) (.type "dict")
 |dT {a:Addr} {kvs:List (List At×V)} (e:H a=some (.dT kvs)):TyOf K H (.ref a) (.type "dict")
 |ins {a C dx:Addr} {fs:List (Str×V)} (e:H a=some (.ins C dx fs)) (cl:Cls K C) (ha:findIn K (.ref C) "__class__" =some (some (.builtin "object.__class__")))
   (hn:specialIn K (.builtin "object.__class__") "__get__" =some (some (.builtin "getset_descriptor.__get__"))) (htk:takesIn K (.builtin "object.__class__")=some true)
   (hm:mroIn K C (.type "object")=some true):TyOf K H (.ref a) (.ref C)
end
structure Room(k:Nat)(A:Around):Prop where
 hd:A.handled=none
 dp:A.depth + 3 * k + 5 < recursionLimit
 un:A.units + 16 * k + 200 < cLine
theorem Room.in1{k:Nat}{A:Around}(r:Room (k + 1) A):Room k A.in1:=
 ⟨r.hd,by have:=r.dp;show A.depth + 3 * k + 5 < _;omega,by have:=r.un;show A.units + 1 + 16 * k + 200 < _;omega⟩
def cj_6{A:Around}{C:Addr}{us:List Value}{kw:List (Str×Value)}:(A.under (.builtin "type.__call__" ⟨.ref C::us,kw⟩)).depth=A.depth + 1:=by
 first|rfl|simp [Around.under,Code.weight,Code.isCreation,Code.isGuard,Code.isCaller,Code.frames,Code.isFrame,guardIds]
def cj_7{A:Around}{C:Addr}{us:List Value}{kw:List (Str×Value)}:(A.under (.builtin "type.__call__" ⟨.ref C::us,kw⟩)).units=A.units + 1:=by
 first|rfl|simp [Around.under,Code.cUnits,Code.frames,Code.isFrame]
theorem Room.depth{k:Nat}{A:Around}(r:Room k A):A.depth < recursionLimit:=by have:=r.dp;omega
def tNil:TA:=λ_ H Q=>Q [] H
def eh_3(ta:TE)(tr:TA):TA:=λ σ H Q=>ta σ H λx H1=>tr σ H1 λxs H2=>Q (x::xs) H2
section
variable{X:Cx}{e:Expr}{es:List Expr}{te:TE}{t:TA}{pos:Pos}
def w_4:PA X [] tNil:=λ_ _ _ _ H Q I h=>Calls.spliced_nil ⟨[],H,I,.nil,h⟩
def k_0(ha:PE X e te)(hr:PA X es t)(hs:starEach (e::es) X.env=(false,eval e X.env)::starEach es X.env:=by rfl):PA X (e::es) (eh_3 te t):=by
 intro pos zd s σ H Q I h;rw [hs];show wpAny _ _ (spliced ((false,eval e X.env)::backTo pos (starEach es X.env))) _ _ s;refine Calls.spliced_cons (Bi (ha zd s σ H _ I h) λu s1 ⟨x,H1,I1,r1,q1⟩=> ?_);exact Bi (hr pos zd s1 σ H1 _ I1 q1) λus s2 ⟨xs,H2,I2,r2,q2⟩=>⟨x::xs,H2,I2,.cons r1 r2,q2⟩
def tTup(t:TA):TE:=λ σ H Q=>t σ H λxs H1=>xs.length<=sizeLine/\∀p,H1 p=none->Q (.ref p) (upd H1 p (.tup xs))
def tLst(t:TA):TE:=λ σ H Q=>t σ H λxs H1=>xs.length<=sizeLine/\∀p,H1 p=none->Q (.ref p) (upd H1 p (.lst xs))
def db_8{x1}(h:PA X es t):PE X (.Tuple es x1 pos) (tTup t):=by
 intro zd s σ H Q I hq;refine wpAny_Tuple_spliced (Bi (h pos zd s σ H _ I hq) λus s1 ⟨xs,H1,I1,r,z,q⟩=>⟨by rw [<-r.length];exact z, ?_⟩);have hf:H1 s1.heap.objs.size=none:=I1.hok.fresh (Nat.le_refl _);refine⟨.ref s1.heap.objs.size,upd H1 s1.heap.objs.size (.tup xs),I1.laid (t':=s1.toks) (λb u e=>Heap.get?_push_of_some _ e) (Nat.le_refl _) ?_,rfl,q _ hf⟩;exact⟨z,us,r,⟨_,Heap.get?_push_size _ rfl,rfl,_,rfl⟩⟩
def db_9(h:PA X es t):PE X (.List es pos) (tLst t):=by
 intro zd s σ H Q I hq;refine wpAny_List_spliced (Bi (h pos zd s σ H _ I hq) λus s1 ⟨xs,H1,I1,r,z,q⟩=>⟨by rw [<-r.length];exact z, ?_⟩);have hf:H1 s1.heap.objs.size=none:=I1.hok.fresh (Nat.le_refl _);refine⟨.ref s1.heap.objs.size,upd H1 s1.heap.objs.size (.lst xs),I1.laid (t':=s1.toks) (λb u e=>Heap.get?_push_of_some _ e) (Nat.le_refl _) ?_,rfl,q _ hf⟩;exact⟨z,us,0,r,Heap.get?_push_size _ rfl⟩
end
abbrev Sp:=List V->Hp->VK->XK->Prop
abbrev CXT:=List Env->Hp->Shared->XK->Value->Shared->Prop
structure Env0(P:Program)(w:World)(K:Frag)(mg:Str->Option Value)(base:Heap)(A:Around)(outer:List Env)(s:Shared)(H:Hp):Prop where
 frames:A.frames=some outer
 mod:Mod K mg base
 bs:∀b o,base.get? b=some o->s.heap.get? b=some o/\H b=none
 bsz:base.objs.size<=s.heap.objs.size
 funs:s.heap.FunFrames base outer
 frf:∀b∈frs outer,H b=none
 hok:HOk P w H s.heap
 bare:AllBare s.gens
def CE(outer:List Env)(P:Program)(w:World)(H:Hp)(s:Shared)(Q:VK)(u:Value)(s':Shared):Prop:=
 ∃v H',s'.os=s.os/\AllBare s'.gens/\Un (frs outer) [] H H' s.heap s'.heap/\HOk P w H' s'.heap/\RelV v u/\Q v H'
def CR(CX:CXT)(outer:List Env)(P:Program)(w:World)(H:Hp)(s:Shared)(Q:VK)(E:XK)(r:Result)(s':Shared):Prop:=
 match r with
 | .ok (.ret u)=>CE outer P w H s Q u s'
 | .ok _=>False
 | .error e=>CX outer H s E e s'
structure FnOk(P:Program)(w:World)(K:Frag)(mg:Str->Option Value)(base:Heap)(CX:CXT)(k:Nat)(f:Addr)(fd:FuncData)(ps:List Str)(sp:Sp):Prop where
 len:∀vs H Q E,sp vs H Q E->vs.length=ps.length
 run:∀(A:Around) (outer:List Env) (s:Shared) (H:Hp) (args:Args) (us:List Value) (vs:List V) (Q:VK) (E:XK),Room k A->Env0 P w K mg base A outer s H->BindsTo s fd args (ps.zip us)->Vals vs us->sp vs H Q E->
  codeAny (model P w) A (.call (.ref f) args) (CR CX outer P w H s Q E) s
def Env0.make{P:Program}{w:World}{K:Frag}{mg:Str->Option Value}{base:Heap}{A:Around}{outer:List Env}{s:Shared}{H:Hp}(e:Env0 P w K mg base A outer s H)(C:Addr)(us:List Value)(kw:List (Str×Value)):
  Env0 P w K mg base (A.under (.builtin "type.__call__" ⟨.ref C::us,kw⟩)) outer s H:=⟨by first|exact e.frames|(simpa [Around.under,Code.envs,Code.isFrame,pushEnvs] using e.frames),e.mod,e.bs,e.bsz,e.funs,e.frf,e.hok,e.bare⟩
theorem Env0.in1{P:Program}{w:World}{K:Frag}{mg:Str->Option Value}{base:Heap}{A:Around}{outer:List Env}{s:Shared}{H:Hp}(e:Env0 P w K mg base A outer s H):
  Env0 P w K mg base A.in1 outer s H:=⟨e.frames,e.mod,e.bs,e.bsz,e.funs,e.frf,e.hok,e.bare⟩
section
variable{X:Cx}{zd:List (Addr×Obj)}{σ:St}{H:Hp}{s s':Shared}
def Inv.env0(I:Inv X zd σ H s):Env0 X.prog X.w X.K X.mg X.base X.A X.stack s H:=
 ⟨I.ok.frames,I.ok.mod,I.bs,Nat.le_trans I.ok.bsz I.sz,I.stack,I.stkFree,I.hok,I.bare⟩
def Inv.after{Q:VK}{u:Value}(I:Inv X zd σ H s)(h:CE X.stack X.prog X.w H s Q u s'):EP X zd σ Q u s':=by
 obtain⟨v,H',os,bare,un,hok,r,q⟩:=h;obtain⟨hh,g,d,t,os'⟩:=s';obtain rfl:os'=s.os:=os;exact⟨v,H',I.call (h':=hh) (g':=g) (d':=d) (t':=t) (ch:=[]) un hok bare (λb z=>absurd z (by simp)),r,q⟩
end
def Binds(K:Frag)(fd:FuncData)(ps:List Str)(ds:List Value):Prop:=
 ∀(s:Shared) (us:List Value),K.In s.heap->(us ++ ds).length=ps.length->BindsTo s fd ⟨us,[]⟩ (ps.zip (us ++ ds))
def Binds.all{K:Frag}{fd:FuncData}{ps:List Str}(h:∀us:List Value,us.length=ps.length->bindArgs fd ⟨us,[]⟩=pure (ps.zip us)):Binds K fd ps []:=λs us _ hl=>by
 rw [List.append_nil] at hl⊢;exact .of_eq (h us hl)
section
variable{X:Cx}{CX:CXT}{k:Nat}{f C:Addr}{fd:FuncData}{ps:List Str}{sp:Sp}{dvs:List V}{ds:List Value}{E:XK}{x m:Str}{p pos zh:Pos}{e o:Expr}{es:List Expr}{ta:TE}{t:TA}
structure Mk(K:Frag)(C f:Addr):Prop where
 makes:makesIn K C=true
 init:findIn K (.ref C) "__init__" =some (some (.ref f))
 fn:isFn K (.ref f)=true
 kp:keepIn K (.ref C)=true
end
section
variable{X:Cx}{CX:CXT}{k:Nat}{f C:Addr}{fd:FuncData}{ps ks:List Str}{sp:Sp}{E:XK}{x m:Str}{p pos zh gq:Pos}{e o:Expr}{es:List Expr}{kws:List Keyword}{te ta:TE}{t tk:TA}{nm:Option Str}
structure KBinds(K:Frag)(fd:FuncData)(ps ks:List Str)(g:List Value->List Value->List Value)(gV:List V->List V->List V):Prop where
 to:∀(s:Shared) (us ws:List Value),K.In s.heap->(g us ws).length=ps.length->BindsTo s fd ⟨us,ks.zip ws⟩ (ps.zip (g us ws))
 rel:∀{vs:List V} {us:List Value} {zs:List V} {ws:List Value},Vals vs us->Vals zs ws->Vals (gV vs zs) (g us ws)
variable{g:List Value->List Value->List Value}{gV:List V->List V->List V}
end
structure FnScope(N P:List Str)(sc:Scope):Prop where
 kind:sc.kind=.function
 co:sc.isCoroutine=false
 gen:sc.isGenerator=false
 nd:N.Nodup
 pre:N.take P.length=P
 par:∀x∈P,sc.names.lookup x=some .local\/sc.names.lookup x=some .cell
 nofree:∀y∈sc.names,y.2≠ .free
theorem bl_7{kindOf:Str->Option NameKind}{x:Str}:∀{binds:List (Str×Value)} {m:Str->Option Value},(∀v,(x,v)∉binds)->bindL kindOf binds m x=m x
 | [],_,_=>rfl
 |(n,v)::r,m,h=>by
  unfold bindL;rw [bl_7 λw hw=>h w (List.mem_cons_of_mem _ hw)]
  split
  ·have:x≠n:=by rintro rfl;exact h v List.mem_cons_self
   simp [this]
  ·rfl
theorem bl_8{kindOf:Str->Option NameKind}{x:Str}:∀{binds:List (Str×Value)} {m:Str->Option Value},(∀v,(x,v)∉binds)->bindC kindOf binds m x=m x
 | [],_,_=>rfl
 |(n,v)::r,m,h=>by
  unfold bindC;rw [bl_8 λw hw=>h w (List.mem_cons_of_mem _ hw)]
  split
  ·rfl
  ·have:x≠n:=by rintro rfl;exact h v List.mem_cons_self
   simp [this]
theorem bl_9{kindOf:Str->Option NameKind}{x:Str}{v:Value}:∀{P:List Str} {vs:List Value} {i:Nat} {m:Str->Option Value},P.Nodup->P[i]? =some x->vs[i]? =some v->kindOf x=some .local->
  bindL kindOf (P.zip vs) m x=some v
 | [],_,_,_,_,h,_,_=>by simp at h
 |_::_,[],_,_,_,_,h,_=>by simp at h
 |p::P,w::vs,0,m,nd,h1,h2,hk=>by
  simp at h1 h2;subst h1;subst h2;show bindL kindOf ((p,w)::P.zip vs) m p=_;unfold bindL;rw [bl_7 λv hv=>(List.nodup_cons.mp nd).1 (List.of_mem_zip hv).1,if_pos hk];simp
 |p::P,w::vs,i + 1,m,nd,h1,h2,hk=>by
  show bindL kindOf ((p,w)::P.zip vs) m x=_;unfold bindL;exact bl_9 (i:=i) (List.nodup_cons.mp nd).2 (by simpa using h1) (by simpa using h2) hk
theorem bm_0{kindOf:Str->Option NameKind}{x:Str}{v:Value}:∀{P:List Str} {vs:List Value} {i:Nat} {m:Str->Option Value},P.Nodup->P[i]? =some x->vs[i]? =some v->kindOf x≠some .local->
  bindC kindOf (P.zip vs) m x=some v
 | [],_,_,_,_,h,_,_=>by simp at h
 |_::_,[],_,_,_,_,h,_=>by simp at h
 |p::P,w::vs,0,m,nd,h1,h2,hk=>by
  simp at h1 h2;subst h1;subst h2;show bindC kindOf ((p,w)::P.zip vs) m p=_;unfold bindC;rw [bl_8 λv hv=>(List.nodup_cons.mp nd).1 (List.of_mem_zip hv).1,if_neg hk];simp
 |p::P,w::vs,i + 1,m,nd,h1,h2,hk=>by
  show bindC kindOf ((p,w)::P.zip vs) m x=_;unfold bindC;exact bm_0 (i:=i) (List.nodup_cons.mp nd).2 (by simpa using h1) (by simpa using h2) hk
def Gd(N:List Str)(vs:List V):St:=vs.map some ++ List.replicate (N.length - vs.length) none
def Fm(CX:CXT)(P:Program)(w:World)(K:Frag)(mg:Str->Option Value)(base:Heap)(N:List Str)(qual:Str)(scope:Scope)(f:Addr)(cd:Value)(A:Around)(outer:List Env)(s:Shared)(H:Hp)(E:XK):Cx where
 prog:=P
 w:=w
 K:=K
 mg:=mg
 base:=base
 A:=A.deeper (envOfC qual scope s.heap.objs.size f cd)
 N:=N
 s₀:=s
 H₀:=H
 env:=envOfC qual scope s.heap.objs.size f cd
 outer:=outer
 stack:=envOfC qual scope s.heap.objs.size f cd::outer
 ex:=[]
 calm:=true
 fn:=λ_=>true
 pn:=[]
 xe:=λe s'=>wpAny (model P w) (A.deeper (envOfC qual scope s.heap.objs.size f cd)) (leaving (envOfC qual scope s.heap.objs.size f cd) e) (λ_ s''=>CX outer H s E e s'') (λe' s''=>CX outer H s E e' s'') s'
def bz_3{sc:Scope}{n:Nat}{x:Str}(h:sc.names.lookup x=some .cell):∃c,(cellsFrom n sc.names []).lookup x=some c:=by
 have q:=cellsFrom_some sc.names n [] (.inl h);exact Option.isSome_iff_exists.mp q
def cv_2{CX:CXT}{P:Program}{w:World}{K:Frag}{mg:Str->Option Value}{base:Heap}{N ps:List Str}{qual:Str}{scope:Scope}{f:Addr}{cd:Value}{A:Around}{outer:List Env}{s s1:Shared}{H:Hp}{E:XK}{us:List Value}{vs:List V}
  (S:FnScope N ps scope) (hd:A.handled=none) (e0:Env0 P w K mg base A outer s H) (hl:vs.length=ps.length) (r:Vals vs us)
  (x:InCallC s s.heap.objs.size (bindL (envOfC qual scope s.heap.objs.size f cd).kindOf (ps.zip us) λ_=>none) (cellsFrom (s.heap.objs.size + 1) scope.names []) (bindC (envOfC qual scope s.heap.objs.size f cd).kindOf (ps.zip us) λ_=>none) s1):
  Inv (Fm CX P w K mg base N qual scope f cd A outer s H E) [] (Gd N vs) H s1:=by
 have hpl:ps.length<=N.length:=by have:=congrArg List.length S.pre;rw [List.length_take] at this;omega
 obtain⟨h1,tk,rfl,hk⟩:=x.done;have noA:∀b:Addr,b∉(Fm CX P w K mg base N qual scope f cd A outer s H E).ex:=λb z=>absurd (show b∈([]:List Addr) from z) (by simp);refine⟨⟨e0.mod,S.kind,rfl,rfl,Nat.le_refl _,λy z c h1 h2=> ?_,λy hy=> ?_,λy c _ h=> ?_,λ_=>hd,Around.frames_deeper e0.frames,.inr ⟨rfl,rfl⟩,λb z=>absurd z (noA b),e0.bs,e0.bsz,λb _ _=>noA b,λb z=>absurd z (noA b),e0.funs,e0.frf⟩,
  rfl,e0.bare,Un.kept hk,⟨_,x.toInCall.ns,λi y v h1 h2 h3=> ?_⟩,λy c h=>⟨_,x.cell y c h⟩,e0.hok.fresh (Nat.le_refl _),λy c h=> ?_,λp hp=>absurd (show p∈([]:List (Addr×Obj)) from hp) (by simp),e0.hok.kept hk, ?_⟩
 ·exact name_of_addr x.apart (PySem.mem_of_lookup h1) (PySem.mem_of_lookup h2)
 ·have hy:scope.names.lookup y=some .cell\/scope.names.lookup y=some .free:=hy;rcases hy with hy|hy
  ·exact bz_3 hy
  ·exact absurd rfl (S.nofree _ (PySem.mem_of_lookup hy))
 ·exact Nat.le_of_lt (x.above y c (PySem.mem_of_lookup h))
 ·have hi:i < vs.length:=by
   unfold Gd at h2
   by_cases hi:i < vs.length
   ·exact hi
   ·rw [List.getElem?_append_right (by simpa using hi)] at h2;rw [List.getElem?_replicate] at h2
    split at h2 <;> cases h2
  have ha:vs[i]? =some v:=by
   unfold Gd at h2;rw [List.getElem?_append_left (by simpa using hi),List.getElem?_map] at h2;cases e:vs[i]? with
   |none=>rw [e] at h2;cases h2
   |some a=>rw [e] at h2;cases h2;rfl
  obtain⟨u,hu,rv⟩:=r.get ha;have hp:ps[i]? =some y:=by
   rw [<-S.pre,List.getElem?_take_of_lt (by omega)];exact h1
  have ndP:ps.Nodup:=by rw [<-S.pre];exact S.nd.sublist (List.take_sublist _ _)
  refine⟨u,rv, ?_⟩;rcases S.par y (List.mem_of_getElem? hp) with k|k
  ·exact .inl ⟨k,bl_9 ndP hp hu k⟩
  ·obtain⟨c,e⟩:=bz_3 (n:=s.heap.objs.size + 1) k;refine .inr ⟨.inl k,c,e, ?_⟩;have q:=x.cell y c e;rw [bm_0 ndP hp hu (by show scope.names.lookup y≠_;rw [k];decide)] at q;exact q
 ·exact e0.hok.fresh (Nat.le_of_lt (x.above y c (PySem.mem_of_lookup h)))
 ·unfold Gd;show _=N.length;rw [List.length_append,List.length_map,List.length_replicate];omega
section
variable{X:Cx}{x:Str}{p pos:Pos}{e:Expr}{es:List Expr}{t:TA}{id T:String}{r:List V->Hp->VK->Prop}
def tCB(r:List V->Hp->VK->Prop)(t:TA):TE:=λ σ H Q=>t σ H λvs H1=>r vs H1 Q
def bd_1(hc:Eh X (.builtin id) r)(hg:Gl X x)(hm:X.mg x=none)(hv:bootBuiltins x=some (.builtin id))(ha:PA X (e::es) t)(hn:x≠ "__name__" :=by decide)(hdb:(x ==("__debug__" :Str))=false:=by decide)
  (he:starEach (e::es) X.env=(false,eval e X.env)::starEach es X.env:=by rfl) (hpl:(backTo pos (starEach es X.env)).any (·.1)=false:=by rfl):PE X (.Call (.Name x p) (e::es) [] pos) (tCB r t):=by
 intro zd s σ H Q I h;refine wpAny_Call_Name_kw (ah_3 I hg hm hv ?_ hn hdb);exact PyProof.Rows.callWith_builtin1 (Bi (ha pos zd s σ H _ I h) λus s1 ⟨vs,H1,I1,r1,q1⟩=>hc zd s1 σ H1 vs us Q I1 r1 q1) he hpl
def cv_3(hc:Eh X (.type T) r)(hg:Gl X x)(hm:X.mg x=none)(hv:bootBuiltins x=some (.type T))(ha:PA X (e::es) t)(hn:x≠ "__name__" :=by decide)(hdb:(x ==("__debug__" :Str))=false:=by decide)
  (he:starEach (e::es) X.env=(false,eval e X.env)::starEach es X.env:=by rfl) (hpl:(backTo pos (starEach es X.env)).any (·.1)=false:=by rfl):PE X (.Call (.Name x p) (e::es) [] pos) (tCB r t):=by
 intro zd s σ H Q I h;refine wpAny_Call_Name_kw (ah_3 I hg hm hv ?_ hn hdb);exact PyProof.Rows.callWith_type1 (Bi (ha pos zd s σ H _ I h) λus s1 ⟨vs,H1,I1,r1,q1⟩=>hc zd s1 σ H1 vs us Q I1 r1 q1) he hpl
end
end L2
namespace HT
open PySem PyProof.Rows
section
open PySem.SeqAt
open PySem.AutoSeq1 (wpAny_loadPart')
open PySem.MeetsSeq PySem.MeetsSeq2 PySem.MeetsSeq3
end
section
variable{prog:Program}{w:World}{A:Around}{E:Value->Shared->Prop}{s:Shared}
def sIx(n d:Nat):Option Int->Nat
 |none=>d
 |some v=>if v < 0 then(v + (n:Int)).toNat else min v.toNat n
def sIx_le(n d:Nat)(hd:d<=n)(o:Option Int):sIx n d o<=n:=by
 cases o with
 |none=>exact hd
 |some v=>
  show(if v < 0 then(v + (n:Int)).toNat else min v.toNat n)<=n
  by_cases hv:v < 0
  ·rw [if_pos hv];omega
  ·rw [if_neg hv];exact Nat.min_le_right _ _
end
end HT
namespace L2
open PySem PySem.Spec PyProof.Rows
abbrev TO:=St->Hp->(Option Int->Hp->Prop)->Prop
def PO(X:Cx)(e:Option Expr)(t:TO):Prop:=
 ∀(zd:List (Addr×Obj)) (s:Shared) (σ:St) (H:Hp) (Q:Option Int->Hp->Prop),Inv X zd σ H s->t σ H Q->
  wpAny (model X.prog X.w) X.A (evalPart e X.env) (λu s'=>∃o H',Inv X zd σ H' s'/\IsPart u o/\Q o H') X.xe s
def dn_7:TO:=λ_ H Q=>Q none H
def eh_4(t:TE):TO:=λ σ H Q=>t σ H λx H1=>∃i,x=.int i/\Q (some i) H1
section
variable{X:Cx}{e:Expr}{te:TE}{lo hi:Option Expr}{tl th:TO}{pos p2:Pos}
def dn_8:PO X none dn_7:=by
 intro zd s σ H Q I h;rw [evalPart_none];exact wpAny_pure ⟨none,H,I,.none,h⟩
def dn_9(h:PE X e te):PO X (some e) (eh_4 te):=by
 intro zd s σ H Q I hw;rw [evalPart_some];refine Bi (h zd s σ H _ I hw) λu s1 ⟨x,H1,I1,r1,q1⟩=> ?_;obtain⟨i,rfl,q⟩:=q1;obtain⟨t,rfl⟩:=r1;exact⟨some i,H1,I1,.int i t,q⟩
def SlR(X:Cx)(r:V->Option Int->Option Int->Hp->VK->Prop):Prop:=
 ∀(zd:List (Addr×Obj)) (s:Shared) (σ:St) (H:Hp) (x:V) (v vl vu:Value) (lo hi:Option Int) (sl:Addr) (Q:VK),Inv X zd σ H s->RelV x v->s.heap.IsSliceOf sl vl vu .none->IsPart vl lo->IsPart vu hi->r x lo hi H Q->
  ∃T id,typeLookup (.type T) "__getitem__" =pure (some (.builtin id))/\s.TypeIs v T/\wpAny (model X.prog X.w) X.A (getItem v (.ref sl)) (EP X zd σ Q) X.xe s
def tSl(r:V->Option Int->Option Int->Hp->VK->Prop)(te:TE)(tl th:TO):TE:=λ σ H Q=>te σ H λx H1=>tl σ H1 λl H2=>th σ H2 λu H3=>r x l u H3 Q
def dc_0{r:V->Option Int->Option Int->Hp->VK->Prop}(hr:SlR X r)(he:PE X e te)(hl:PO X lo tl)(hu:PO X hi th):PE X (.Subscript e (.Slice lo hi none p2) pos) (tSl r te tl th):=by
 intro zd s σ H Q I h;refine Subscript_ (Bi (he zd s σ H _ I h) λv s1 ⟨x,H1,I1,r1,q1⟩=> ?_);refine wpAny_Slice (Bi (hl zd s1 σ H1 _ I1 q1) λvl s2 ⟨l,H2,I2,pl,q2⟩=>Bi (hu zd s2 σ H2 _ I2 q2) λvu s3 ⟨u,H3,I3,pu,q3⟩=> ?_);rw [evalPart_none];refine wpAny_pure ?_;have I4:Inv X zd σ H3 {s3 with heap:=s3.heap.push {cls:=.type "slice",data:=.fields #[vl,vu,.none]}}:=I3.kept (t':=s3.toks) λb ob q=>Heap.get?_push_of_some _ q;obtain⟨T,id,hT,ht,hg⟩:=hr zd {s3 with heap:=s3.heap.push {cls:=.type "slice",data:=.fields #[vl,vu,.none]}} σ H3 x v vl vu l u s3.heap.objs.size Q I4 r1 (Heap.IsSliceOf.new ..) pl pu q3;show wpAny (model X.prog X.w) X.A (subscriptTail e (.Slice lo hi none p2) v (.ref s3.heap.objs.size)) (EP X zd σ Q) X.xe {s3 with heap:=s3.heap.push {cls:=.type "slice",data:=.fields #[vl,vu,.none]}};exact tail_any (ops:=[.ref s3.heap.objs.size,v]) ht hT hg (by with_unfolding_all rfl)
def cutV(xs:List V)(lo hi:Option Int):List V:=(xs.drop (HT.sIx xs.length 0 lo)).take (HT.sIx xs.length xs.length hi - HT.sIx xs.length 0 lo)
def bz_4(xs:List V)(lo hi:Option Int):(cutV xs lo hi).length<=xs.length:=by
 unfold cutV;rw [List.length_take,List.length_drop];omega
end
def ixN(n:Nat)(i:Int):Option Nat:=if 0<=i then(if i < n then some i.toNat else none) else if -(n:Int)<=i then some (i + n).toNat else none
def atI{α:Type}(xs:List α)(i:Int):Option α:=(ixN xs.length i).bind λj=>xs[j]?
def cp_7{n:Nat}{i:Int}{j:Nat}(h:ixN n i=some j):seqIndex? i n=some j/\j < n/\ -(n:Int)<=i/\i < n:=by
 unfold ixN at h
 by_cases h0:0<=i
 ·rw [if_pos h0] at h
  by_cases h1:i < n
  ·rw [if_pos h1] at h;have e:i.toNat=j:=Option.some.inj h;exact⟨by rw [seqIndex_of h0 h1,e],by omega,by omega,h1⟩
  ·rw [if_neg h1] at h;cases h
 ·rw [if_neg h0] at h
  by_cases h1: -(n:Int)<=i
  ·rw [if_pos h1] at h;have e:(i + n).toNat=j:=Option.some.inj h;exact⟨by rw [seqIndex_neg (by omega) h1,e],by omega,h1,by omega⟩
  ·rw [if_neg h1] at h;cases h
def br_3{α:Type}{xs:List α}{i:Int}{v:α}(h:atI xs i=some v):∃j,seqIndex? i xs.length=some j/\xs[j]? =some v/\j < xs.length/\ -(xs.length:Int)<=i/\i < xs.length:=by
 unfold atI at h;cases e:ixN xs.length i with
 |none=>rw [e] at h;cases h
 |some j=>
  rw [e] at h;obtain⟨h1,h2,h3,h4⟩:=cp_7 e;exact⟨j,h1,h,h2,h3,h4⟩
def cp_8(b:Expr):Prop:=∀o i,subscripted b false o i=operate [o,i] (getItem o i)
def IxR(X:Cx)(r:R2):Prop:=
 ∀(value slice:Expr) (zd:List (Addr×Obj)) (s:Shared) (σ:St) (H:Hp) (x y:V) (v u:Value) (Q:VK),Inv X zd σ H s->RelV x v->RelV y u->r x y H Q->
  subscripted slice false v u=operate [v,u] (getItem v u)->wpAny (model X.prog X.w) X.A (subscriptTail value slice v u) (EP X zd σ Q) X.xe s
def MtR(X:Cx)(id:String)(r:V->List V->Hp->VK->Prop):Prop:=
 ∀(zd:List (Addr×Obj)) (s:Shared) (σ:St) (H:Hp) (x:V) (xs:List V) (v:Value) (us:List Value) (Q:VK),Inv X zd σ H s->RelV x v->Vals xs us->r x xs H Q->
  wpAny (model X.prog X.w) X.A (call (.builtin id) (v::us)) (EP X zd σ Q) X.xe s
section
variable{X:Cx}{a b:Expr}{ta tb:TE}{pos:Pos}
def eh_5{r:R2}(hr:IxR X r)(ha:PE X a ta)(hb:PE X b tb)(hs:cp_8 b):PE X (.Subscript a b pos) (tOp r ta tb):=by
 intro zd s σ H Q I h;exact Subscript_ (binT ha hb I h λv u s2 x y H2 I2 rx ry q=>hr a b zd s2 σ H2 x y v u Q I2 rx ry q (hs _ _))
def rIxL(K:Frag):R2:=λx y H Q=>∃p xs i v,x=.ref p/\y=.int i/\SqL K H p xs/\atI xs i=some v/\Q v H
def rIxT(K:Frag):R2:=λx y H Q=>∃p xs i v,x=.ref p/\y=.int i/\SqT K H p xs/\atI xs i=some v/\Q v H
def rIxS:R2:=λx y H Q=>∃z i c,x=.str z/\y=.int i/\z.length<=sizeLine/\atI z.cps.toList i=some c/\Q (.str ⟨#[c]⟩) H
def do_0:IxR X (rIxL X.K):=by
 intro value slice zd s σ H x y v u Q I rx ry h hs;obtain⟨p,xs,i,z,rfl,rfl,hq,he,q⟩:=h;cases rx;obtain⟨t,rfl⟩:=ry;obtain⟨its,r,pl,hz⟩:=I.list hq;obtain⟨j,h1,h2,h3,h4,h5⟩:=br_3 he;obtain⟨w,ew,rw'⟩:=r.get h2;have hl:=r.length;have hn:=ao_1;have fin:EP X zd σ Q w s:=⟨z,H,I,rw',q⟩
 by_cases h0:0<=i
 ·have hj:i.toNat=j:=by
   rw [seqIndex_of h0 h5] at h1;exact Option.some.inj h1
  exact item_listR pl.isList h0 (by omega) (by rw [hj];simpa using ew) fin hs
 ·have hj:(i + (its.toArray.size:Int)).toNat=j:=by
   rw [seqIndex_neg (by omega) h4] at h1;rw [List.size_toArray,<-hl];exact Option.some.inj h1
  exact subscriptTail_builtinR (x:=w) pl.isList.typeIs slot_list_getitem.lookup
   (wpAny_getItem_list_neg (Q:=λr s'=>r=w/\EP X zd σ Q r s') pl.isList (by omega) (by rw [List.size_toArray] <;> omega) (by omega) (by rw [hj];simpa using ew) ⟨rfl,fin⟩) hs
def dz_8:IxR X (rIxT X.K):=by
 intro value slice zd s σ H x y v u Q I rx ry h hs;obtain⟨p,xs,i,z,rfl,rfl,hq,he,q⟩:=h;cases rx;obtain⟨t,rfl⟩:=ry;obtain⟨its,r,pl,hz⟩:=I.tuple hq;obtain⟨j,h1,h2,h3,h4,h5⟩:=br_3 he;obtain⟨w,ew,rw'⟩:=r.get h2;have hl:=r.length;have hn:=ao_1;have fin:EP X zd σ Q w s:=⟨z,H,I,rw',q⟩;exact subscriptTail_builtinR (x:=w) pl.typeIs slot_tuple_getitem.lookup
  (getItem_tuple (j:=j) (Q:=λr s'=>r=w/\EP X zd σ Q r s') pl (by omega) (by omega) (by rw [List.size_toArray,<-hl];exact h1) (by simpa using ew) ⟨rfl,fin⟩) hs
def dz_9:IxR X rIxS:=by
 intro value slice zd s σ H x y v u Q I rx ry h hs;obtain⟨z,i,c,rfl,rfl,hz,he,q⟩:=h;obtain⟨t,rfl⟩:=rx;obtain⟨t',rfl⟩:=ry;obtain⟨j,h1,h2,h3,h4,h5⟩:=br_3 he;have hl:z.cps.toList.length=z.length:=by simp [Str.length]
 rw [hl] at h1 h4 h5;have hn:=ao_1;exact tail_any (typeIs_str s z t) slot_str_getitem.lookup (getItem_str (c:=c) (by
  have e1:decide (i < -(2 ^ 63:Int))=false:=decide_eq_false (by omega);have e2:decide (i≥2 ^ 63)=false:=decide_eq_false (by omega);rw [e1,e2,Bool.or_false]) (by rw [h1];simpa using h2) ⟨.str ⟨#[c]⟩,H,I.tok _,⟨_,rfl⟩,q⟩) hs
def cj_8(its:List Value)(n j:Nat)(u:Value):Obj.mapSeq (·.setIfInBounds j u) {cls:=.type "list",data:=.seq its.toArray n}={cls:=.type "list",data:=.seq (its.set j u).toArray n}:=by
 simp [Obj.mapSeq]
theorem Inv.lst{zd:List (Addr×Obj)}{σ:St}{H:Hp}{s:Shared}{p:Addr}{xs:List V}(I:Inv X zd σ H s)(h:H p=some (.lst xs)):
  ∃(its:List Value) (n:Nat),Vals xs its/\s.heap.get? p=some {cls:=.type "list",data:=.seq its.toArray n}/\xs.length<=sizeLine:=by
 obtain⟨z,its,n,r,e⟩:=I.hok p _ h;exact⟨its,n,r,e,z⟩
def Inv.lstUpd{zd:List (Addr×Obj)}{σ:St}{H:Hp}{s:Shared}{p:Addr}{xs ys:List V}{its its':List Value}{n n':Nat}{f:Obj->Obj}(I:Inv X zd σ H s)(h:H p=some (.lst xs))
  (ho:s.heap.get? p=some {cls:=.type "list",data:=.seq its.toArray n}) (hf:f {cls:=.type "list",data:=.seq its.toArray n}={cls:=.type "list",data:=.seq its'.toArray n'}) (r:Vals ys its') (hz:ys.length<=sizeLine) (t:Nat):
  Inv X zd σ (upd H p (.lst ys)) {s with heap:=s.heap.update p f,toks:=t}:=by
 have e:(s.heap.update p f).get? p=some {cls:=.type "list",data:=.seq its'.toArray n'}:=by
  rw [Heap.get?_update_self f ho (by rw [hf] <;> rfl),hf]
 refine I.write (x:=p) (e:=p) (by rw [h];trivial) (.inl rfl) (λb u hb q=>(Heap.get?_update_other _ _ (Ne.symm hb)).trans q) ⟨_,e⟩ ?_;exact⟨hz,its',n',r,e⟩
def eh_6:V->V->V->Hp->(Hp->Prop)->Prop:=λo i v H Q=>∃p xs k j,o=.ref p/\i=.int k/\H p=some (.lst xs)/\ixN xs.length k=some j/\Q (upd H p (.lst (xs.set j v)))
def dc_1:PSet X eh_6:=by
 intro zd s σ H o i v ov iv u Q I ro ri rv h;obtain⟨p,xs,k,j,rfl,rfl,hp,hj,q⟩:=h;cases ro;obtain⟨t,rfl⟩:=ri;obtain⟨its,n,r,ho,hz⟩:=I.lst hp;obtain⟨h1,h2,h3,h4⟩:=cp_7 hj;have hl:=r.length;have hn:=ao_1;have I':Inv X zd σ (upd H p (.lst (xs.set j v))) {s with heap:=s.heap.update p (Obj.mapSeq (·.setIfInBounds j u))}:=
  I.lstUpd hp ho (cj_8 its n j u) (r.set rv j) (by rw [List.length_set];exact hz) s.toks
 by_cases h0:0<=k
 ·have hk:k.toNat=j:=by
   rw [seqIndex_of h0 h4] at h1;exact Option.some.inj h1
  exact ki_setAt ho h0 (by omega) (by rw [List.size_toArray,<-hl];exact h4) (by rw [hk];exact⟨_,I',q⟩)
 ·have hk:(k + (its.toArray.size:Int)).toNat=j:=by
   rw [seqIndex_neg (by omega) h3] at h1;rw [List.size_toArray,<-hl];exact Option.some.inj h1
  exact ki_setBack ho (by omega) (by rw [List.size_toArray,<-hl];exact h3) (by omega) (by rw [hk];exact⟨_,I',q⟩)
def br_4(lo hi:Option Int)(n:Nat):(sliceBounds lo hi none n).1=((HT.sIx n 0 lo:Nat):Int)/\(sliceBounds lo hi none n).2.1=((HT.sIx n n hi:Nat):Int)/\(sliceBounds lo hi none n).2.2=1:=by
 refine⟨?_, ?_,rfl⟩
 ·cases lo with
  |none=>simp [sliceBounds,HT.sIx]
  |some i=>
   simp only [sliceBounds,HT.sIx,Option.getD_none,show(1:Int) > 0 by decide,if_true]
   by_cases h:i < 0
   ·simp only [h,if_true] <;> omega
   ·simp only [h,if_false] <;> omega
 ·cases hi with
  |none=>simp [sliceBounds,HT.sIx]
  |some i=>
   simp only [sliceBounds,HT.sIx,Option.getD_none,show(1:Int) > 0 by decide,if_true]
   by_cases h:i < 0
   ·simp only [h,if_true] <;> omega
   ·simp only [h,if_false] <;> omega
def bj_3(its:List Value)(lo hi:Option Int):slicePick its.toArray lo hi none=((its.drop (HT.sIx its.length 0 lo)).take (HT.sIx its.length its.length hi - HT.sIx its.length 0 lo)).toArray:=by
 obtain⟨h1,h2,h3⟩:=br_4 lo hi its.toArray.size;unfold slicePick;rw [h1,h2,h3];simp only [sliceRange_one,pick_run,List.size_toArray] <;> rfl
def rSlL(K:Frag):V->Option Int->Option Int->Hp->VK->Prop:=λx lo hi H Q=>∃a xs,x=.ref a/\SqL K H a xs/\∀p,H p=none->Q (.ref p) (upd H p (.lst (cutV xs lo hi)))
def do_1:SlR X (rSlL X.K):=by
 intro zd s σ H x v vl vu lo hi sl Q I rx hs pl pu h;obtain⟨a,xs,rfl,hx,q⟩:=h;cases rx;obtain⟨its,r,ht,hz⟩:=I.list hx;have zm:=r.length;refine⟨"list",_,slot_list_getitem.lookup,ht.isList.typeIs, ?_⟩;refine wpAny_getItem_list_slice ht.isList hs pl pu .none (by simp) ?_ (by rw [List.size_toArray] <;> omega);rw [bj_3,<-zm];refine⟨.ref s.heap.objs.size,_,I.laid (t':=s.toks) (o:=.lst (cutV xs lo hi)) (λb ob q=>Heap.get?_push_of_some _ q) (Nat.le_refl _) ?_,rfl,q _ (I.hok.fresh (Nat.le_refl _))⟩;exact⟨Nat.le_trans (bz_4 xs lo hi) hz,_,0,(r.drop (HT.sIx xs.length 0 lo)).take (HT.sIx xs.length xs.length hi - HT.sIx xs.length 0 lo),Heap.get?_push_size _ rfl⟩
def Gh:V->Bool
 | .non=>true
 | .bl _=>true
 | .int _=>true
 | .str _=>true
 |_=>false
def eqV:V->V->Bool
 | .non,.non=>true
 | .bl a,.bl b=>a ==b
 | .bl a,.int b=>(if a then 1 else 0) ==b
 | .int a,.bl b=>a ==(if b then 1 else 0)
 | .int a,.int b=>a ==b
 | .str a,.str b=>a ==b
 |_,_=>false
def ea_0{A:Around}{s:Shared}{y x:V}{u v:Value}(ry:RelV y u)(rx:RelV x v)(fy:Gh y=true)(fx:Gh x=true):SeqAt.EqAt A s u v (eqV y x):=by
 cases y with
 |non=>
  cases ry;cases x with
  |non=>cases rx;exact SeqAt.EqAt.same _
  |bl b=>cases rx;exact SeqAt.EqAt.none_bool b
  |int b=>obtain⟨t,rfl⟩:=rx;exact SeqAt.EqAt.none_int b t
  |str b=>obtain⟨t,rfl⟩:=rx;exact SeqAt.EqAt.none_str b t
  |_=>exact absurd (show false=true from fx) Bool.false_ne_true
 |bl a=>
  cases ry;cases x with
  |non=>cases rx;exact SeqAt.EqAt.bool_none a
  |bl b=>cases rx;exact SeqAt.EqAt.bool_bool a b
  |int b=>obtain⟨t,rfl⟩:=rx;exact SeqAt.EqAt.bool_int a b t
  |str b=>obtain⟨t,rfl⟩:=rx;exact SeqAt.EqAt.bool_str a b t
  |_=>exact absurd (show false=true from fx) Bool.false_ne_true
 |int a=>
  obtain⟨t',rfl⟩:=ry;cases x with
  |non=>cases rx;exact SeqAt.EqAt.int_none a t'
  |bl b=>cases rx;exact SeqAt.EqAt.int_bool a t' b
  |int b=>obtain⟨t,rfl⟩:=rx;exact SeqAt.EqAt.int_int a t' b t
  |str b=>obtain⟨t,rfl⟩:=rx;exact SeqAt.EqAt.int_str a t' b t
  |_=>exact absurd (show false=true from fx) Bool.false_ne_true
 |str a=>
  obtain⟨t',rfl⟩:=ry;cases x with
  |non=>cases rx;exact SeqAt.EqAt.str_none a t'
  |bl b=>cases rx;exact SeqAt.EqAt.str_bool a t' b
  |int b=>obtain⟨t,rfl⟩:=rx;exact SeqAt.EqAt.str_int a t' b t
  |str b=>obtain⟨t,rfl⟩:=rx;exact SeqAt.EqAt.str_str a t' b t
  |_=>exact absurd (show false=true from fx) Bool.false_ne_true
 |_=>exact absurd (show false=true from fy) Bool.false_ne_true
def eqU(x:V)(u:Value):Bool:=match u with
 | .none=>eqV .non x
 | .bool b=>eqV (.bl b) x
 | .int i _=>eqV (.int i) x
 | .str z _=>eqV (.str z) x
 |_=>false
def dc_2{x y:V}{u:Value}(r:RelV y u)(f:Gh y=true):eqU x u=eqV y x:=by
 cases y with
 |non=>cases r;rfl
 |bl b=>cases r;rfl
 |int i=>obtain⟨t,rfl⟩:=r;rfl
 |str z=>obtain⟨t,rfl⟩:=r;rfl
 |_=>exact absurd (show false=true from f) Bool.false_ne_true
theorem aq_2{x:V}:∀{xs:List V} {us:List Value},Vals xs us->xs.all Gh=true->us.any (eqU x)=xs.any λy=>eqV y x
 |_,_,.nil,_=>rfl
 |y::xs,u::us,.cons r t,f=>by
  rw [List.all_cons,Bool.and_eq_true] at f;rw [List.any_cons,List.any_cons,dc_2 r f.1,aq_2 t f.2]
theorem ah_4{A:Around}{s:Shared}{x:V}{v:Value}(rx:RelV x v)(fx:Gh x=true):∀{xs:List V} {us:List Value},Vals xs us->xs.all Gh=true->∀u∈us,SeqAt.EqAt A s u v (eqU x u)
 |_,_,.nil,_=>λu hu=>by cases hu
 |y::xs,u::us,.cons r t,f=>λu' hu=>by
  rw [List.all_cons,Bool.and_eq_true] at f;rcases List.mem_cons.mp hu with rfl|hu
  ·rw [dc_2 r f.1];exact ea_0 r rx f.1 fx
  ·exact ah_4 rx fx t f.2 u' hu
def inV(x:V)(xs:List V):Bool:=xs.any λy=>eqV y x
def rIn(K:Frag)(neg:Bool):R2:=λx y H Q=>∃p xs,y=.ref p/\(SqL K H p xs\/SqT K H p xs)/\Gh x=true/\xs.all Gh=true/\Q (.bl (if neg then !inV x xs else inV x xs)) H
def cv_5:Ea X (compareOp .In) (rIn X.K false):=by
 intro zd s σ H x y v u Q I rx ry h;obtain⟨p,xs,rfl,hq,fx,fs,q⟩:=h;cases ry;rcases hq with hq|hq
 ·obtain⟨its,r,pl,hz⟩:=I.list hq;refine SeqAt.in_listAt (eqU x) pl.isList (λw hw=>ah_4 rx fx r fs w (by simpa using hw)) ⟨.bl _,H,I,rfl, ?_⟩;rw [show its.toArray.any (eqU x)=its.any (eqU x) by simp,aq_2 r fs];exact q
 ·obtain⟨its,r,pl,hz⟩:=I.tuple hq;refine SeqAt.in_tupleAt (eqU x) pl (λw hw=>ah_4 rx fx r fs w (by simpa using hw)) ⟨.bl _,H,I,rfl, ?_⟩;rw [show its.toArray.any (eqU x)=its.any (eqU x) by simp,aq_2 r fs];exact q
def br_5:Ea X (compareOp .NotIn) (rIn X.K true):=by
 intro zd s σ H x y v u Q I rx ry h;obtain⟨p,xs,rfl,hq,fx,fs,q⟩:=h;cases ry;rcases hq with hq|hq
 ·obtain⟨its,r,pl,hz⟩:=I.list hq;refine SeqAt.notIn_listAt (eqU x) pl.isList (λw hw=>ah_4 rx fx r fs w (by simpa using hw)) ⟨.bl _,H,I,rfl, ?_⟩;rw [show its.toArray.any (eqU x)=its.any (eqU x) by simp,aq_2 r fs];exact q
 ·obtain⟨its,r,pl,hz⟩:=I.tuple hq;refine SeqAt.notIn_tupleAt (eqU x) pl (λw hw=>ah_4 rx fx r fs w (by simpa using hw)) ⟨.bl _,H,I,rfl, ?_⟩;rw [show its.toArray.any (eqU x)=its.any (eqU x) by simp,aq_2 r fs];exact q
def br_6:Ea X (compareOp .NotIn) (λx y H Q=>∃i j,x=.str i/\y=.str j/\Q (.bl (!(!(Builtin.Str.occurrences j i 0 j.length 1).isEmpty))) H):=by
 intro zd s σ H x y v u Q I rx ry h;obtain⟨i,j,rfl,rfl,q⟩:=h;obtain⟨t,rfl⟩:=rx;obtain⟨t',rfl⟩:=ry;exact notIn_str ⟨.bl _,H,I,rfl,q⟩
def aq_3:Eh X (.builtin "len") (λxs H Q=>∃p ys,xs= [.ref p]/\(SqL X.K H p ys\/SqT X.K H p ys)/\Q (.int ys.length) H):=by
 intro zd s σ H xs us Q I r h;obtain⟨p,ys,rfl,hq,q⟩:=h;obtain⟨u,rfl,rx⟩:=bc_8 r;cases rx;have hn:=ao_1;rcases hq with hq|hq
 ·obtain⟨its,r',pl,hz⟩:=I.list hq;have zm:=r'.length;exact Calls.call_len_list pl.isList (by simp only [List.size_toArray] <;> omega) ⟨.int ys.length,H,I.tok _,⟨s.toks + 1,by rw [List.size_toArray,zm]⟩,q⟩
 ·obtain⟨its,r',pl,hz⟩:=I.tuple hq;have zm:=r'.length;exact len_tuple pl (by simp only [List.size_toArray] <;> omega) ⟨.int ys.length,H,I.tok _,⟨s.toks + 1,by rw [List.size_toArray,zm]⟩,q⟩
def br_7:Eh X (.builtin "len") (λxs H Q=>∃z,xs= [.str z]/\z.length<=sizeLine/\Q (.int z.length) H):=by
 intro zd s σ H xs us Q I r h;obtain⟨z,rfl,hz,q⟩:=h;obtain⟨u,rfl,t,rfl⟩:=bc_8 r;have hn:=ao_1;exact len_str (by omega) ⟨.int z.length,H,I.tok _,⟨_,rfl⟩,q⟩
def aq_4:Eh X (.type "list") (λxs H Q=>∃p ys,xs= [.ref p]/\(SqL X.K H p ys\/SqT X.K H p ys)/\∀l,H l=none->Q (.ref l) (upd H l (.lst ys))):=by
 intro zd s σ H xs us Q I r h;obtain⟨p,ys,rfl,hq,q⟩:=h;obtain⟨u,rfl,rx⟩:=bc_8 r;cases rx;have fin:∀(its:List Value),Vals ys its->ys.length<=sizeLine->∀(h':Heap) (c':Nat),(∀b o',s.heap.get? b=some o'->h'.get? b=some o')->
   h'.get? s.heap.objs.size=some {cls:=.type "list",dict:=none,data:=.seq its.toArray c',slots:= #[]}->EP X zd σ Q (.ref s.heap.objs.size) {s with heap:=h'}:=λits r' hz h' c' kp e=>
  ⟨.ref s.heap.objs.size,_,I.laid (t':=s.toks) kp (Nat.le_refl _) (show ObjOk X.prog X.w _ h' _ (.lst ys) from⟨hz,its,c',r',e⟩),rfl,q _ (I.hok.fresh (Nat.le_refl _))⟩
 rcases hq with hq|hq
 ·obtain⟨its,r',pl,hz⟩:=I.list hq;have zm:=r'.length;obtain⟨o,ho,hc,n,hd⟩:=pl.isList;exact call_list_seq p (.inl rfl) ho hc hd (λh' c' kp e=>fin its r' hz h' c' kp e) (by simp only [List.size_toArray] <;> omega)
 ·obtain⟨its,r',pl,hz⟩:=I.tuple hq;have zm:=r'.length;obtain⟨o,ho,hc,n,hd⟩:=pl;exact call_list_seq p (.inr rfl) ho hc hd (λh' c' kp e=>fin its r' hz h' c' kp e) (by simp only [List.size_toArray] <;> omega)
def am_0:Eh X (.type "tuple") (λxs H Q=>∃p ys,xs= [.ref p]/\((SqL X.K H p ys/\∀l,H l=none->Q (.ref l) (upd H l (.tup ys)))\/(SqT X.K H p ys/\Q (.ref p) H))):=by
 intro zd s σ H xs us Q I r h;obtain⟨p,ys,rfl,h⟩:=h;obtain⟨u,rfl,rx⟩:=bc_8 r;cases rx;rcases h with⟨hq,q⟩|⟨hq,q⟩
 ·obtain⟨its,r',pl,hz⟩:=I.list hq;have zm:=r'.length;refine call_tuple_list pl.isList (λh' kp=> ?_) (by simp only [List.size_toArray] <;> omega);have I1:Inv X zd σ H {s with heap:=h'}:=I.kept (t':=s.toks) kp;have I2:Inv X zd σ (upd H h'.objs.size (.tup ys)) {s with heap:=h'.push {cls:=.type "tuple",data:=.seq its.toArray}}:=
   I1.laid (t':=s.toks) (λb o e=>Heap.get?_push_of_some _ e) (Nat.le_refl _) (show ObjOk X.prog X.w _ _ _ (.tup ys) from⟨hz,its,r',IsTup.new _ _⟩)
  exact⟨.ref h'.objs.size,_,I2,rfl,q _ (I1.hok.fresh (Nat.le_refl _))⟩
 ·obtain⟨its,r',pl,hz⟩:=I.tuple hq;exact call_tuple_same pl ⟨.ref p,H,I,rfl,q⟩
def tyV(K:Frag)(T:String)(x:V)(H:Hp):Prop:=match x with
 | .str _=>T= "str"
 | .int _=>T= "int"
 | .ref p=>(T= "list" /\∃xs,SqL K H p xs)\/(T= "tuple" /\∃o,K.lookup p=some o/\o.cls=.type "tuple" /\o.dict=none)\/
   (T= "dict" /\((∃kvs,H p=some (.dK kvs))\/∃kvs,H p=some (.dT kvs)))\/(T= "set" /\∃S n,H p=some (.set S n))
 |_=>False
def dc_3{zd:List (Addr×Obj)}{σ:St}{H:Hp}{s:Shared}{T:String}{x:V}{v:Value}(I:Inv X zd σ H s)(r:RelV x v)(ty:tyV X.K T x H):
  s.TypeIs v T/\∀a,v=.ref a->∃ob,s.heap.get? a=some ob/\ob.dict=none:=by
 cases x with
 |str z=>
  obtain⟨t,rfl⟩:=r;cases(show T= "str" from ty);exact⟨typeIs_str s z t,λ_ e=>nomatch e⟩
 |int i=>
  obtain⟨t,rfl⟩:=r;cases(show T= "int" from ty);exact⟨typeIs_int s i t,λ_ e=>nomatch e⟩
 |ref p=>
  cases r;rcases ty with⟨rfl,xs,hq⟩|⟨rfl,o,hk,hc,hd⟩|⟨rfl,hk⟩|⟨rfl,S,n,hk⟩
  ·obtain⟨its,_,pl,_⟩:=I.list hq;refine⟨pl.isList.typeIs,λa e=> ?_⟩;cases e;obtain⟨o,n,e,c,hd,_⟩:=pl;exact⟨o,e,hd⟩
  ·refine⟨⟨o,I.kIn p o hk,hc⟩,λa e=> ?_⟩;cases e;exact⟨o,I.kIn _ o hk,hd⟩
  ·have z:∃o,s.heap.get? p=some o/\o.ExactDict:=by
    rcases hk with⟨kvs,hk⟩|⟨kvs,hk⟩
    ·obtain⟨_,_,_,_,o,_,_,e,ex,_⟩:=I.hok p _ hk;exact⟨o,e,ex⟩
    ·obtain⟨_,_,_,_,o,_,_,e,ex,_⟩:=I.hok p _ hk;exact⟨o,e,ex⟩
   obtain⟨o,e,ex⟩:=z;refine⟨⟨o,e,ex.1⟩,λa e2=> ?_⟩;cases e2;exact⟨o,e,ex.2.1⟩
  ·obtain⟨o,_,_,_,e,ex,_⟩:=I.hok p _ hk;refine⟨⟨o,e,ex.1⟩,λa e2=> ?_⟩;cases e2;exact⟨o,e,ex.2.1⟩
 |_=>exact False.elim ty
def tBM0(K:Frag)(T:String)(r:V->List V->Hp->VK->Prop)(to:TE):TE:=λ σ H Q=>to σ H λx H1=>tyV K T x H1/\r x [] H1 Q
def tBM(K:Frag)(T:String)(r:V->List V->Hp->VK->Prop)(to:TE)(t:TA):TE:=λ σ H Q=>to σ H λx H1=>tyV K T x H1/\t σ H1 λxs H2=>r x xs H2 Q
variable{o e:Expr}{es:List Expr}{to:TE}{t:TA}{name:Str}{zh zf:Pos}{T id:String}{r:V->List V->Hp->VK->Prop}
def dc_4(pa:PlainAttrs T)(slot:Slot T name id)(hty:typeOf (.builtin id)=pure (.type "method_descriptor"))(hm:MtR X id r)(ho:PE X o to)
  (ae:attributeBase o name X.env (eval o X.env)=eval o X.env:=by rfl) (aa:(zh.endLine ==zf.line)=true:=by rfl):PE X (.Call (.Attribute o name zh) [] [] zf) (tBM0 X.K T r to):=by
 intro zd s σ H Q I h;refine wpAny_Call_method0_late ae aa (Bi (ho zd s σ H _ I h) λv s1 ⟨x,H1,I1,r1,ty,q1⟩=> ?_);obtain⟨h1,h2⟩:=dc_3 I1 r1 ty;exact⟨T,id,pa,slot,hty,h1,h2,Calls.callWith_builtin rfl (PySem.evalArgs_none (hm zd s1 σ H1 x [] v [] Q I1 r1 .nil q1))⟩
def cp_9(pa:PlainAttrs T)(slot:Slot T name id)(hty:typeOf (.builtin id)=pure (.type "method_descriptor"))(hm:MtR X id r)(ho:PE X o to)(ha:PA X (e::es) t)
  (ae:attributeBase o name X.env (eval o X.env)=eval o X.env:=by rfl)
  (au:((backTo zf (starEach (e::es) X.env)).all (λx=> !x.1) && (backToKw zf (keywordEach [] X.env)).all (λx=>x.1.isSome)
   && decide ((e::es).length + ([]:List Keyword).length + (if([]:List Keyword).isEmpty then 0 else 1) < 30))=true:=by rfl)
  (aa:(zh.endLine ==zf.line)=true:=by rfl) (hs:starEach (e::es) X.env=(false,eval e X.env)::starEach es X.env:=by rfl) (af:(backTo zf (starEach es X.env)).any (·.1)=false:=by rfl):
  PE X (.Call (.Attribute o name zh) (e::es) [] zf) (tBM X.K T r to t):=by
 intro zd s σ H Q I h;refine wpAny_Call_method_late ae au aa rfl (Bi (ho zd s σ H _ I h) λv s1 ⟨x,H1,I1,r1,ty,q1⟩=> ?_);obtain⟨h1,h2⟩:=dc_3 I1 r1 ty;refine⟨T,id,pa,slot,hty,h1,h2, ?_⟩;have hA:=ha zf zd s1 σ H1 _ I1 q1;rw [hs] at hA⊢;refine Calls.callWith_builtin (by show(false || (backTo zf (starEach es X.env)).any (·.1))=false;rw [af] <;> rfl) (Calls.evalArgs_plain ?_);exact Bi hA λus s2 ⟨vs,H2,I2,r2,q2⟩=>hm zd s2 σ H2 x vs v us Q I2 r1 r2 q2
end
def MtM(X:Cx)(id:String)(r:V->List V->Hp->VK->Prop):Prop:=
 ∀(zd:List (Addr×Obj)) (s:Shared) (σ:St) (H:Hp) (x:V) (xs:List V) (v:Value) (us:List Value) (Q:VK),Inv X zd σ H s->RelV x v->Vals xs us->r x xs H Q->
  wpAny (model X.prog X.w) X.A (call (.builtin id) (v::us)) (EP X zd σ Q) X.xe s
def Vals.one:∀{x:V} {us:List Value},Vals [x] us->∃u,us= [u]/\RelV x u
 |_,_,.cons r .nil=>⟨_,rfl,r⟩
def Vals.two:∀{x y:V} {us:List Value},Vals [x,y] us->∃u v,us= [u,v]/\RelV x u/\RelV y v
 |_,_,_,.cons r (.cons q .nil)=>⟨_,_,rfl,r,q⟩
def Vals.zero:∀{us:List Value},Vals [] us->us= []
 |_,.nil=>rfl
theorem Vals.dropLast{xs:List V}{us:List Value}(h:Vals xs us):Vals xs.dropLast us.dropLast:=by
 induction h with
 |nil=>exact .nil
 |cons r t ih=>
  cases t with
  |nil=>exact .nil
  |cons q t'=>exact .cons r ih
theorem Vals.eraseIdx:∀{xs:List V} {us:List Value} (i:Nat),Vals xs us->Vals (xs.eraseIdx i) (us.eraseIdx i)
 |_,_,_,.nil=> .nil
 |_,_,0,.cons _ t=>t
 |_,_,i + 1,.cons r t=> .cons r (Vals.eraseIdx i t)
theorem Vals.reverse{xs:List V}{us:List Value}(h:Vals xs us):Vals xs.reverse us.reverse:=by
 induction h with
 |nil=>exact .nil
 |cons r t ih=>rw [List.reverse_cons,List.reverse_cons];exact Vals.append ih (.cons r .nil)
theorem Vals.rep{xs:List V}{us:List Value}(h:Vals xs us):∀k:Nat,Vals (List.replicate k xs).flatten (List.replicate k us).flatten
 |0=> .nil
 |k + 1=>by
  rw [List.replicate_succ,List.replicate_succ,List.flatten_cons,List.flatten_cons];exact Vals.append h (Vals.rep h k)
def cj_9{α:Type}(l:List α):l.eraseIdx (l.length - 1)=l.dropLast:=by
 induction l with
 |nil=>rfl
 |cons a r ih=>
  cases r with
  |nil=>rfl
  |cons b r=>
   have e:(a::b::r).length - 1=((b::r).length - 1) + 1:=by
    have h1:(a::b::r).length=r.length + 2:=rfl;have h2:(b::r).length=r.length + 1:=rfl;omega
   rw [e,List.eraseIdx_cons_succ,ih]
   all_goals rfl
theorem bm_1(its:List Value):∀(k:Nat) (zp:List Value),
  List.foldl (λx1 x2=>x1 ++ x2) zp.toArray (List.replicate k its.toArray)=(zp ++ (List.replicate k its).flatten).toArray
 |0,zp=>by simp
 |k + 1,zp=>by
  have e:zp.toArray ++ its.toArray=(zp ++ its).toArray:=by simp
  have e2:(zp ++ its) ++ (List.replicate k its).flatten=zp ++ (List.replicate (k + 1) its).flatten:=by
   rw [List.replicate_succ,List.flatten_cons,List.append_assoc]
  rw [<-e2,<-bm_1 its k (zp ++ its),<-e,List.replicate_succ,List.foldl_cons]
section
variable{X:Cx}{zd:List (Addr×Obj)}{σ:St}{H:Hp}{s:Shared}{l b:Addr}{xs ys zs:List V}
def Inv.lset{its its':List Value}{n:Nat}{f:Array Value->Array Value}{t':Nat}(I:Inv X zd σ H s)(hH:H l=some (.lst xs))
  (e:s.heap.get? l=some {cls:=.type "list",data:=.seq its.toArray n}) (hf:f its.toArray=its'.toArray) (hv:Vals ys its') (hz:ys.length<=sizeLine):
  Inv X zd σ (upd H l (.lst ys)) {s with heap:=s.heap.update l (Obj.mapSeq f),toks:=t'}:=by
 have q:=PySem.IsL.update e f;rw [hf] at q;refine I.write (x:=l) (e:=l) (by rw [hH];exact trivial) (.inl rfl) (λb' u hb hu=>(Heap.get?_update_other s.heap (Obj.mapSeq f) (Ne.symm hb)).trans hu) ⟨_,q⟩ ?_;exact⟨hz,its',_,hv,q⟩
def Inv.lnew{its:List Value}{t':Nat}(I:Inv X zd σ H s)(hv:Vals ys its)(hz:ys.length<=sizeLine):
  Inv X zd σ (upd H s.heap.objs.size (.lst ys)) {s with heap:=s.heap.push {cls:=.type "list",data:=.seq its.toArray},toks:=t'}:=
 I.laid (λ_ _ q=>Heap.get?_push_of_some _ q) (Nat.le_refl _) ⟨hz,its,0,hv,Heap.get?_push_size _ rfl⟩
theorem Inv.fresh(I:Inv X zd σ H s):H s.heap.objs.size=none:=I.hok.fresh (Nat.le_refl _)
def Inv.lstM(I:Inv X zd σ H s)(hH:H l=some (.lst xs)):xs.length<=sizeLine/\∃(its:List Value) (n:Nat),Vals xs its/\xs.length=its.length/\s.heap.get? l=some {cls:=.type "list",data:=.seq its.toArray n}:=by
 obtain⟨z,its,n,r,e⟩:=I.hok l _ hH;exact⟨z,its,n,r,r.length,e⟩
def bz_5{n:Nat}(h:n<=sizeLine):Builtin.List.listTooLong n=false:=by
 unfold Builtin.List.listTooLong;exact decide_eq_false (by omega)
end
section
variable{X:Cx}
def cq_0:V->List V->Hp->VK->Prop:=λx vs H Q=>∃l xs y,x=.ref l/\vs= [y]/\H l=some (.lst xs)/\xs.length < sizeLine/\Q .non (upd H l (.lst (xs ++ [y])))
def at_9:MtM X "list.append" cq_0:=by
 intro zd s σ H x vs v us Q I rx rv h;obtain⟨l,xs,y,rfl,rfl,hH,hz,q⟩:=h;cases rx;obtain⟨u,rfl,ru⟩:=rv.one;obtain⟨z,its,n,r,hl,e⟩:=I.lstM hH;refine call_meets F.slot_list_append ⟨_,e,rfl⟩ F.entry_list_append (F.args_list_append_2 _ _) (PySem.list_append l its.toArray n u (by rw [List.size_toArray];omega)) ⟨e, ?_⟩;refine⟨.non,_,I.lset (its':=its ++ [u]) hH e (by simp) (r.append (.cons ru .nil)) ?_,rfl,q⟩;rw [List.length_append,List.length_singleton];omega
def rPop:V->List V->Hp->VK->Prop:=λx vs H Q=>∃l xs y,x=.ref l/\vs= []/\H l=some (.lst xs)/\xs[xs.length - 1]? =some y/\Q y (upd H l (.lst xs.dropLast))
def ea_1:MtM X "list.pop" rPop:=by
 intro zd s σ H x vs v us Q I rx rv h;obtain⟨l,xs,y,rfl,rfl,hH,hy,q⟩:=h;cases rx;have hus:=rv.zero;subst hus;obtain⟨z,its,n,r,hl,e⟩:=I.lstM hH;obtain⟨u,hu,ru⟩:=r.get hy;have hy':its.toArray[its.toArray.size - 1]? =some u:=by
  show its.toArray[its.length - 1]? =some u;rw [<-Array.getElem?_toList,<-hl];exact hu
 refine call_meets F.slot_list_pop ⟨_,e,rfl⟩ F.entry_list_pop (F.args_list_pop_1 _) (MeetsSeq.list_pop_last l its.toArray n u hy' (by rw [List.size_toArray];omega)) ⟨e, ?_⟩;refine⟨y,_,I.lset (its':=its.dropLast) hH e ?_ r.dropLast ?_,ru,q⟩
 ·show its.toArray.eraseIdxIfInBounds (its.toArray.size - 1)=its.dropLast.toArray;rw [List.size_toArray,List.eraseIdxIfInBounds_toArray,cj_9]
 ·rw [List.length_dropLast];omega
def rRep:R2:=λx y H Q=>∃l k xs,x=.ref l/\y=.int k/\H l=some (.lst xs)/\ -(2 ^ 63)<=k/\k < 2 ^ 63/\xs.length * k.toNat<=sizeLine/\
 ∀p,H p=none->Q (.ref p) (upd H p (.lst (List.replicate k.toNat xs).flatten))
def do_2{α:Type}(xs:List α)(k:Nat):(List.replicate k xs).flatten.length=k * xs.length:=by
 induction k with
 |zero=>simp
 |succ k ih=>rw [List.replicate_succ,List.flatten_cons,List.length_append,ih,Nat.succ_mul,Nat.add_comm]
def ea_2:Ea X (binaryOp .Mult) rRep:=by
 intro zd s σ H x y v u Q I rx ry h;obtain⟨l,k,xs,rfl,rfl,hH,h1,h2,hz,q⟩:=h;cases rx;obtain⟨t,rfl⟩:=ry;obtain⟨z,its,n,r,hl,e⟩:=I.lstM hH;have zm:its.toArray.size * k.toNat<=sizeLine:=by rw [List.size_toArray,<-hl];exact hz
 have fq:¬its.toArray.size * k.toNat > (2 ^ 63 - 1) / 8:=by
  have:(sizeLine:Nat)<=(2 ^ 63 - 1) / 8:=by decide
  omega
 have fj:¬(!Builtin.List.listFitsIndex k)=true:=by
  rw [fitsIndex_both h1 h2];exact Bool.false_ne_true
 have aw:¬Builtin.List.listTooLong (its.toArray.size * k.toNat)=true:=by
  rw [bz_5 zm];exact Bool.false_ne_true
 have fu:List.foldl (λx1 x2=>x1 ++ x2) #[] (List.replicate (if its.toArray.isEmpty=true then 0 else k.toNat) its.toArray)=(List.replicate k.toNat its).flatten.toArray:=by
  have f0:∀m:Nat,List.foldl (λx1 x2=>x1 ++ x2) #[] (List.replicate m its.toArray)=(List.replicate m its).flatten.toArray:=λm=>by
   have:=bm_1 its m [];rw [List.nil_append] at this;exact this
  rw [f0];cases its with
  |nil=>simp
  |cons a r'=>rw [if_neg (by simp)]
 refine wpAny_binaryOp_repeat_ref (T:= "list") (U:= "int") (by decide) ⟨_,e,rfl⟩ (λs'=>typeIs_int s' k t) noFill_list_mul F.fills_int_mul F.slot_int_rmul repeat_list F.slot_int_index.lookup
  (call_meets F.slot_int_rmul (typeIs_int s k t) F.entry_int_rmul (F.args_int_rmul_2 _ _) (int___rmul___int_list k t l its.toArray n)
   ⟨e,rfl,⟨_,e,rfl⟩,call_meets F.slot_list_mul ⟨_,e,rfl⟩ F.entry_list_mul (F.args_list_mul_2 _ _) (AutoListH.list___mul___list_int_3 l its.toArray n k t fj fq aw) ⟨e, ?_⟩⟩)
 rw [fu];exact⟨.ref _,_,I.lnew (t':=s.toks) (r.rep k.toNat) (by rw [do_2,Nat.mul_comm];exact hz),rfl,q _ I.fresh⟩
end
section
variable{prog:Program}{w:World}{A:Around}{E:Value->Shared->Prop}{s:Shared}
end
section
variable{X:Cx}
end
end L2
namespace Att
open PySem PySem.W PySem.Calls PyProof.Rows
def ba_0{P:Params}{h:Heap}:∀(ns:List Int) (vs:List Value),WellAll P h vs (ns.map WData.int)->IntsAre vs ns:=by
 intro ns
 induction ns with
 |nil=>
  intro vs w;rw [List.map_nil] at w;cases w;exact .nil
 |cons n ns ih=>
  intro vs w;rw [List.map_cons] at w;cases w with
  |cons a b=>
   cases a;exact .cons _ _ (ih _ b)
def cv_6{l:OpenLaw}{n:Nat}(hn:l.most=some n){P:Params}{h:Heap}{args:List WData}{vals:List Value}
  (bh:l.row.toRowW.claim.pre args=true) (hwl:WellAll P h vals args):
  ∃a vs ns,vals= [Value.ref a]/\args= [WData.list (ns.map WData.int)]/\h.get? a=some {cls:=.type "list",data:=.seq vs.toArray}/\IntsAre vs ns/\ns.length<=n:=by
 have hsh:WShape.hasAll [] args [.list .int]=true:=(pre_splitW bh).1;have hc:l.pre.holds [] {args:=args}=true:=(pre_splitW bh).2;obtain⟨d,r,rfl,h1,h2⟩:=hasAllW_cons hsh;obtain rfl:=hasAllW_nil h2;obtain⟨xs,rfl,h3⟩:=hasW_list h1;obtain⟨ns,rfl⟩:=items_int h3;have zm:ns.length<=n:=by
  unfold OpenLaw.pre at hc;have h4:(WTm.not (.lt (.lit (.int (n:Int))) (.len (.arg 0)))).holds [] {args:=[.list (ns.map .int)]}=true:=by
   have h4:=(holds_andW hc).1;rw [hn] at h4;exact h4
  have h5:=condW_of h4 (w_not (w_lt w_lit (w_len_list (w_arg rfl))));rw [List.length_map] at h5;refine Nat.le_of_not_lt λq=> ?_;have q':(n:Int) < ((ns.length:Nat):Int):=by omega
  first
   |(rw [decide_eq_true q'] at h5;exact absurd h5 (by decide))
   |(simp at h5;omega)
 cases hwl with
 |cons w1 w2=>
  cases w2;cases w1 with
  |list ho hall=>exact⟨_,_,ns,rfl,rfl,ho,ba_0 ns _ hall,zm⟩
def cv_7(l:OpenLaw)(args:List WData):l.row.toRowW.claim.post args (.bool true) args=true:=
 postW_of (r:=l.row.toRowW) (X:=(true ==true))
  (show WShape.has [] (.bool true) .bool=true by first|rfl|decide|simp [WShape.has,WShape.arms,WShape.armsAll])
  (show(WTm.eq .res (.lit (.bool true))).value [] {args:=args,res:=some (.bool true),after:=args}=some (.bool (true ==true)) from w_eq_bool (w_res rfl) w_lit) rfl
def attach_call{l:OpenLaw}{n:Nat}{q:Program}{loose:List Str}{XP:(Str->Option Value)->Heap->Prop}{YP:World->Heap->Prop}{d:DefRec}
  (hn:l.most=some n) (hdf:d.params.defaults= [])
  (call:∀(w:World) (s₀ s₁:Shared) (mg mb:Str->Option Value) (fa:Addr) (o:Obj) (pm cd doc:Value) (a:Addr) (vs:List Value) (ns:List Int),
   Ground q loose [] XP w s₀ mg mb s₁.heap->YP w s₁.heap->
   s₁.heap.get? fa=some o->o.data=.func (docDef d.name d.params d.body d.scope pm cd doc)->s₁.heap.CodeRec cd d.name->mg d.name=some (.ref fa)->
   s₁.heap.get? a=some {cls:=.type "list",data:=.seq vs.toArray}->IntsAre vs ns->ns.length<=n->s₁.gens= #[]->
   codeAny (model l.prog w) callerA (.call (.ref fa) ⟨[.ref a],[]⟩) (λr s'=>r=.ok (.ret (.bool true))/\OldK s₁.heap s'.heap/\s'.os=s₁.os/\AllBare s'.gens) s₁):
  WalkO q loose XP YP l.row.toRowW d [] (λf vs=>PySem.call f vs):=by
 intro w s₀ s₁ mg mb G Y fa o pm cd doc dV kV ho hd hcd hD hmg hg args vals as bh hlay hrd hwl hlo;obtain rfl:dV=.none:=Dflts.none hD hdf;obtain rfl:kV=.none:=Dflts.noKw hD;obtain⟨a,vs,ns,rfl,rfl,ba,hints,zm⟩:=cv_6 hn bh hwl;refine enter_call (codeAny_mono (call w s₀ s₁ mg mb fa o pm cd doc a vs ns G Y ho (fd_plain hd) hcd hmg ba hints zm hg) λr s' hq=> ?_);obtain⟨rfl,h2,h3,h4⟩:=hq;exact⟨.inl ⟨.bool true,.bool true,[],rfl,λ_=>rfl,.bool true,cv_7 l _,λ_=>⟨List.Pairwise.nil,λ_ hm=>(nomatch hm)⟩⟩,h2,h3,h4⟩
section
variable{prog:Program}{w:World}{A:Around}{E:Value->Shared->Prop}{s:Shared}{K:Frag}
end
end Att
namespace L2
open PySem PySem.Spec PyProof.Rows
theorem bm_2:∀{vs:List Value} {ns:List Int},IntsAre vs ns->Vals (ns.map V.int) vs
 |_,_,.nil=> .nil
 |_,_,.cons n t h=> .cons ⟨t,rfl⟩ (bm_2 h)
def Only(H:Hp):Prop:=∀b,H b=none\/∃o xs,H b=some (.frz o (.lst xs))
def dc_5{P:Program}{w:World}{K:Frag}{mg mb:Str->Option Value}{CX:CXT}{k:Nat}{fa a:Addr}{fd:FuncData}{x:Str}{sp:Sp}{s₁:Shared}{vs:List Value}{ns:List Int}
  (KX:K.In s₁.heap) (hns:s₁.heap.Ns mainGlobals mg) (hb:s₁.heap.Ns builtinsNs mb) (hbb:∀x:Str,x≠ "__name__" ->mb x=bootBuiltins x) (dk:s₁.heap.NoLimit) (hg:s₁.gens= #[])
  (ha:s₁.heap.get? a=some {cls:=.type "list",data:=.seq vs.toArray}) (hi:IntsAre vs ns) (hl:ns.length<=sizeLine) (hr:Room k callerA)
  (F:∀base:Heap,K.In base->base.Ns mainGlobals mg->FnOk P w K mg base CX k fa fd [x] sp) (cw:∀(s:Shared) (u:Value),BindsTo s fd ⟨[u],[]⟩ [(x,u)])
  (hsp:∀H:Hp,Only H->SqL K H a (ns.map V.int)->sp [.ref a] H (λv _=>v=.bl true) λ_ _ _=>False)
  (hCX:∀H e s',CX [] H s₁ (λ_ _ _=>False) e s'->False):
  codeAny (model P w) callerA (.call (.ref fa) ⟨[.ref a],[]⟩) (λr s'=>r=.ok (.ret (.bool true))/\OldK s₁.heap s'.heap/\s'.os=s₁.os/\AllBare s'.gens) s₁:=by
 have rv:=bm_2 hi;have gi:=hi.length
 
 have core:∀H:Hp,Only H->SqL K H a (ns.map V.int)->HOk P w H s₁.heap->(∀b,H b≠none->b=a)->(H a≠none->K.lookup a=none)->
   codeAny (model P w) callerA (.call (.ref fa) ⟨[.ref a],[]⟩) (λr s'=>r=.ok (.ret (.bool true))/\OldK s₁.heap s'.heap/\s'.os=s₁.os/\AllBare s'.gens) s₁:=by
  intro H hO hS hok hA hK;have ar:∀{b:Addr} {o:Obj},s₁.heap.get? b=some o->H b=none->(hidT s₁.heap H).get? b=some o:=λe n=>da_6 e n;have noA:∀{b:Addr} {o:Obj} {es:Array DictEntry} {ep:Nat},s₁.heap.get? b=some o->o.data=.dict es ep->H b=none:=λ{b o es ep} e d=>by
   cases q:H b with
   |none=>rfl
   |some u=>
    have e':b=a:=hA b (by rw [q];simp);subst e';rw [ha] at e;cases e;have d':Data.seq vs.toArray _=Data.dict es ep:=d;cases d'
  have nsK:∀{b:Addr} {m:Str->Option Value},s₁.heap.Ns b m->(hidT s₁.heap H).Ns b m:=λ{b m} ⟨o,es,ep,e,d,r⟩=>⟨o,es,ep,ar e (noA e d),d,r⟩;have hKb:K.In (hidT s₁.heap H):=λb o e=>ar (KX b o e) (by
   cases q:H b with
   |none=>rfl
   |some u=>
    have e':b=a:=hA b (by rw [q];simp);subst e';rw [hK (by rw [q];simp)] at e;cases e)
  have hM:Mod K mg (hidT s₁.heap H):=⟨hKb,nsK hns,⟨mb,nsK hb,hbb⟩,let⟨mc,h1,h2⟩:=dk;⟨mc,nsK h1,h2⟩⟩;have e0:Env0 P w K mg (hidT s₁.heap H) callerA [] s₁ H:=⟨rfl,hM,λb o e=>dm_4 e,Nat.le_of_eq (cu_3 _ _),trivial,λb hb=>absurd (show b∈([]:List Addr) from hb) (by simp),hok,.of_eq hg⟩;refine codeAny_mono ((F _ hKb (nsK hns)).run callerA [] s₁ H ⟨[.ref a],[]⟩ [.ref a] [.ref a] _ _ hr e0 (cw s₁ (.ref a)) (.cons rfl .nil) (hsp H hO hS)) λr s' h=> ?_;cases r with
  |error e=>exact(hCX H e s' h).elim
  |ok fl=>
   cases fl with
   |next=>exact False.elim h
   |brk=>exact False.elim h
   |cont=>exact False.elim h
   |ret u=>
    obtain⟨v,H',os,bare,un,ft,r',q⟩:=h;have q':v=.bl true:=q;subst q';obtain rfl:u=Value.bool true:=r';refine⟨rfl,OldK.of_keep λb o e=> ?_,os,bare⟩;cases q:H b with
    |none=>exact un.keep b o e q (by intro z;exact absurd (show b∈([]:List Addr) from z) (by simp)) (by simp)
    |some u=>
     rcases hO b with z|⟨ob,xs,z⟩
     ·rw [q] at z;cases z
     ·have z2:=un.frzs b ob _ z;obtain⟨e1,_⟩:=hok b _ z;obtain⟨e2,_⟩:=ft b _ z2;rw [e] at e1;cases e1;exact e2
 cases hk:K.lookup a with
 |some o=>
  
  have e:=KX a o hk;rw [ha] at e;cases e;refine core (λ_=>none) (λ_=> .inl rfl) (.inr ⟨_,vs.toArray,_,hk,rfl,rfl,rfl,by rw [List.size_toArray,gi];exact hl,by simpa using rv⟩) (λb u z=>by have z':(none:Option HO)=some u:=z;cases z') (λb z=>absurd rfl z) λz=>absurd rfl z
 |none=>
  refine core (λb=>if b=a then some (.frz {cls:=.type "list",data:=.seq vs.toArray} (.lst (ns.map V.int))) else none) (λb=> ?_) (.inl (.inr ⟨{cls:=.type "list",data:=.seq vs.toArray},if_pos rfl⟩)) (λb u z=> ?_) (λb z=> ?_) λ_=>hk
  ·by_cases hb:b=a
   ·exact .inr ⟨_,_,if_pos hb⟩
   ·exact .inl (if_neg hb)
  ·by_cases hb:b=a
   ·have z':=(if_pos hb).symm.trans z;cases z';subst hb;exact⟨ha,by rw [List.length_map];exact hl,vs,_,rv,ha⟩
   ·have z':=(if_neg hb).symm.trans z;cases z'
  ·by_cases hb:b=a
   ·exact hb
   ·exact absurd (if_neg hb) z
def do_3{l:PySem.W.OpenLaw}{n k:Nat}{q:Program}{loose:List Str}{XP:(Str->Option Value)->Heap->Prop}{YP:World->Heap->Prop}{d:DefRec}{K:Params->Frag}{CX:World->CXT}{sp:World->Sp}{x:Str}
  (hn:l.most=some n) (hn2:n<=sizeLine) (hdf:d.params.defaults= []) (hr:Room k callerA)
  (hY:∀(w:World) (h:Heap),YP w h->(K w.params).In h)
  (F:∀(w:World) (mg:Str->Option Value) (fa:Addr) (h:Heap),(K w.params).In h->h.Ns mainGlobals mg->mg d.name=some (.ref fa)->
   ∃fd:FuncData,(∀(s:Shared) (u:Value),BindsTo s fd ⟨[u],[]⟩ [(x,u)])/\
    ∀base:Heap,(K w.params).In base->base.Ns mainGlobals mg->FnOk l.prog w (K w.params) mg base (CX w) k fa fd [x] (sp w))
  (hsp:∀(w:World) (H:Hp) (a:Addr) (ns:List Int),ns.length<=n->Only H->SqL (K w.params) H a (ns.map V.int)->sp w [.ref a] H (λv _=>v=.bl true) λ_ _ _=>False)
  (hCX:∀(w:World) (H:Hp) (s:Shared) (e:Value) (s':Shared),CX w [] H s (λ_ _ _=>False) e s'->False):
  PySem.W.WalkO q loose XP YP l.row.toRowW d [] (λf vs=>PySem.call f vs):=by
 refine Att.attach_call hn hdf λw s₀ s₁ mg mb fa o pm cd doc a vs ns G Y ho hd hcd hmg ba hints zm hg=> ?_;have KX:=hY w _ Y;obtain⟨fd,hb,hF⟩:=F w mg fa _ KX G.T.g hmg;exact dc_5 KX G.T.g G.T.b G.T.builtins G.T.nolimit hg ba hints (Nat.le_trans zm hn2) hr hF hb (λH hO hS=>hsp w H a ns zm hO hS) λH e s'=>hCX w H s₁ e s'
def k_1(s:Stmt):Arguments:=match s with
 | .FunctionDef _ a _ _ _ _ _ _ _ _=>a
 |_=>{posonlyargs:=[],args:=[],vararg:=none,kwonlyargs:=[],kw_defaults:=[],kwarg:=none,defaults:=[]}
def Fc(s:Stmt):List Stmt:=match s with
 | .FunctionDef _ _ b _ _ _ _ _ _ _=>b
 |_=> []
def Ck(s:Stmt):Scope:=match s with
 | .FunctionDef _ _ _ _ _ _ sc _ _ _=>sc
 |_=>{kind:=.function,names:=[],isGenerator:=false,isCoroutine:=false}
abbrev CX0:CXT:=λ_ _ _ _ _ _=>False
abbrev E0:XK:=λ_ _ _=>False
structure Fun(K:Frag)(x qual:Str)(st:Stmt)(f:Addr)(fd:FuncData):Prop where
 ex:∃(oc:Value) (od:Option Addr) (kV doc pm:Value) (an:Option Addr) (zq ct:Value) (osl:Array (Option Value)),
  fd=fnOf x qual (k_1 st) (Fc st) (Ck st) .none kV doc pm an zq ct/\K.lookup f=some ⟨oc,od,.func fd,osl⟩/\codeIn K zq qual=true
 kp:keepIn K (.ref f)=true
section
variable{P:Program}{w:World}{K:Frag}{mg:Str->Option Value}{base:Heap}
def Fun.binds{x qual:Str}{st:Stmt}{f:Addr}{fd:FuncData}{ps:List Str}(F:Fun K x qual st f fd)
  (h:∀(kV doc pm:Value) (an:Option Addr) (zq ct:Value) (us:List Value),us.length=ps.length->bindArgs (fnOf x qual (k_1 st) (Fc st) (Ck st) .none kV doc pm an zq ct) ⟨us,[]⟩=pure (ps.zip us)):Binds K fd ps []:=by
 obtain⟨oc,od,kV,doc,pm,an,zq,ct,osl,rfl,lk,hcd⟩:=F.ex;exact .all (h kV doc pm an zq ct)
def ck_0{x qual:Str}{st:Stmt}{f:Addr}{oc:Value}{od an:Option Addr}{osl:Array (Option Value)}{kV doc pm zq ct:Value}(l:K.lookup f=some ⟨oc,od,.func (fnOf x qual (k_1 st) (Fc st) (Ck st) .none kV doc pm an zq ct),osl⟩)
  (c:codeIn K zq qual=true) (k:keepIn K (.ref f)=true):Fun K x qual st f (fnOf x qual (k_1 st) (Fc st) (Ck st) .none kV doc pm an zq ct):=⟨⟨oc,od,kV,doc,pm,an,zq,ct,osl,rfl,l,c⟩,k⟩
end
section
variable{X:Cx}
end
def Same(H H':Hp):Prop:=∀b o,H b=some o->H' b=some o
def Same.refl(H:Hp):Same H H:=λ_ _ h=>h
def Same.trans{H H1 H2:Hp}(a:Same H H1)(b:Same H1 H2):Same H H2:=λc o h=>b c o (a c o h)
def Same.free{H H':Hp}(e:Same H H'){l:Addr}(h:H' l=Option.none):H l=Option.none:=by
 cases q:H l with
 |none=>rfl
 |some o=>
  rw [e l o q] at h;cases h
def Same.seq{K:Frag}{H H':Hp}{a:Addr}{xs:List V}(e:Same H H')(h:SqL K H a xs):SqL K H' a xs:=by
 rcases h with(h|⟨o,h⟩)|h
 ·exact .inl (.inl (e _ _ h))
 ·exact .inl (.inr ⟨o,e _ _ h⟩)
 ·exact .inr h
end L2
namespace L3
open PySem PySem.Spec PyProof.Rows L2
variable{K:Frag}{fd:FuncData}{mg:Str->Option Value}{P:Program}{vs:List V}{us:List Value}{base:Heap}{H:Hp}{X:Cx}{pos:Pos}{v:V}
abbrev Sg:=L2.St
inductive D where
 |non|bl (b:Bool)|int (i:Int)|str (x:Str)|lst (ds:List D)|tup (ds:List D)|dic (kvs:List (At×D))
 |exn (c:Str) (ns:List Str) (vs:List D)|obj (c:Str) (ns:List Str) (vs:List D)
structure Xn where
 c:Str
 ns:List Str
 vs:List D
inductive R(α:Type) where
 |ok (a:α)|ex (x:Xn)|no
namespace R
def bind{α β:Type}(r:R α)(k:α->R β):R β:=match r with
 | .ok a=>k a
 | .ex x=> .ex x
 | .no=> .no
@[simp] theorem bind_ok{α β:Type}(a:α)(k:α->R β):(R.ok a).bind k=k a:=rfl
@[simp] theorem bind_ex{α β:Type}(x:Xn)(k:α->R β):(R.ex x).bind k=.ex x:=rfl
@[simp] theorem bind_no{α β:Type}(k:α->R β):(R.no).bind k=.no:=rfl
end R
inductive Tn where
 |sh (d:D)|lst (ts:List Tn)|tup (ts:List Tn)|dic (zn:List (At×Tn))|obj (c:Str) (ns:List Str) (ts:List Tn)
mutual
def Tn.d:Tn->D
 | .sh d=>d
 | .lst ts=> .lst (Tn.ds ts)
 | .tup ts=> .tup (Tn.ds ts)
 | .dic zn=> .dic (Tn.ks zn)
 | .obj c ns ts=> .obj c ns (Tn.ds ts)
def Tn.ds:List Tn->List D
 | []=> []
 |t::ts=>t.d::Tn.ds ts
def Tn.ks:List (At×Tn)->List (At×D)
 | []=> []
 |(k,t)::ts=>(k,t.d)::Tn.ks ts
end
def Tn.of:D->Tn
 | .lst ds=> .lst (ds.map .sh)
 | .dic kvs=> .dic (kvs.map λp=>(p.1,.sh p.2))
 | .obj c ns vs=> .obj c ns (vs.map .sh)
 |d=> .sh d
theorem Tn.ds_sh:∀ds:List D,Tn.ds (ds.map .sh)=ds
 | []=>rfl
 |d::ds=>by
  show(Tn.sh d).d::Tn.ds (ds.map .sh)=_;rw [Tn.ds_sh ds];rfl
theorem Tn.ks_sh:∀kvs:List (At×D),Tn.ks (kvs.map λp=>(p.1,Tn.sh p.2))=kvs
 | []=>rfl
 |(k,d)::kvs=>by
  show(k,(Tn.sh d).d)::Tn.ks (kvs.map λp=>(p.1,Tn.sh p.2))=_;rw [Tn.ks_sh kvs];rfl
theorem Tn.ks_fst:∀zn:List (At×Tn),(Tn.ks zn).map (·.1)=zn.map (·.1)
 | []=>rfl
 |(k,t)::zn=>by show k::(Tn.ks zn).map (·.1)=_;rw [Tn.ks_fst zn];rfl
theorem Tn.ks_snd:∀zn:List (At×Tn),(Tn.ks zn).map (·.2)=Tn.ds (zn.map (·.2))
 | []=>rfl
 |(k,t)::zn=>by show t.d::(Tn.ks zn).map (·.2)=_;rw [Tn.ks_snd zn];rfl
def Tn.of_d(d:D):(Tn.of d).d=d:=by
 cases d with
 |lst ds=>show D.lst (Tn.ds (ds.map .sh))=_;rw [Tn.ds_sh]
 |dic kvs=>show D.dic (Tn.ks (kvs.map λp=>(p.1,.sh p.2)))=_;rw [Tn.ks_sh]
 |obj c ns vs=>show D.obj c ns (Tn.ds (vs.map .sh))=_;rw [Tn.ds_sh]
 |_=>rfl
inductive W where
 |sh (d:D)|ow (d:D)|tr (t:Tn)
def W.d:W->D
 | .sh d=>d
 | .ow d=>d
 | .tr t=>t.d
@[simp] theorem W.d_sh(d:D):(W.sh d).d=d:=rfl
@[simp] theorem W.d_ow(d:D):(W.ow d).d=d:=rfl
@[simp] theorem W.d_tr(t:Tn):(W.tr t).d=t.d:=rfl
def ClsAt(K:Frag)(c:Str)(C:Addr):Prop:=nsIn K mainGlobals c=some (some (.ref C))
def XO(a C:Addr)(dx:Option Addr):HO:=.ext λh=>∃us sl,h.get? a=some ⟨.ref C,dx,.fields us,sl⟩
mutual
inductive Has(K:Frag)(G:Hp):V->D->Prop where
 |non:Has K G .non .non
 |bl (b:Bool):Has K G (.bl b) (.bl b)
 |int (i:Int):Has K G (.int i) (.int i)
 |str (x:Str):Has K G (.str x) (.str x)
 |lst {a:Addr} {vs:List V} {ds:List D} (h:SqL K G a vs) (r:HasL K G vs ds):Has K G (.ref a) (.lst ds)
 |tup {a:Addr} {vs:List V} {ds:List D} (h:SqT K G a vs) (r:HasL K G vs ds):Has K G (.ref a) (.tup ds)
 |exn0 {a C:Addr} {c:Str} (hc:ClsAt K c C) (h:G a=some (XO a C none)):Has K G (.ref a) (.exn c [] [])
 |exn1 {a C d:Addr} {c:Str} {ns:List Str} {us:List V} {vs:List D} (hc:ClsAt K c C) (h:G a=some (XO a C (some d))) (hd:G d=some (.xd (ns.zip us))) (hl:ns.length=us.length) (r:HasL K G us vs):Has K G (.ref a) (.exn c ns vs)
 |dic {a:Addr} {kvs:List (At×V)} {kds:List (At×D)} (h:Rd G a (.dK kvs)) (hk:kvs.map (·.1)=kds.map (·.1)) (r:HasL K G (kvs.map (·.2)) (kds.map (·.2))):Has K G (.ref a) (.dic kds)
 |obj {a C dx:Addr} {c:Str} {ns:List Str} {us:List V} {vs:List D} (hc:ClsAt K c C) (h:G a=some (.ins C dx (ns.zip us))) (hl:ns.length=us.length) (r:HasL K G us vs):Has K G (.ref a) (.obj c ns vs)
inductive HasL(K:Frag)(G:Hp):List V->List D->Prop where
 |nil:HasL K G [] []
 |cons {v:V} {d:D} {vs:List V} {ds:List D} (h:Has K G v d) (r:HasL K G vs ds):HasL K G (v::vs) (d::ds)
end
abbrev AS:=Addr->Prop
mutual
inductive Ow(K:Frag)(G H:Hp):V->Tn->AS->Prop where
 |sh {v:V} {d:D} {S:AS} (h:Has K G v d):Ow K G H v (.sh d) S
 |lst {a:Addr} {vs:List V} {ts:List Tn} {S S1:AS} (h:H a=some (.lst vs)) (ha:S a) (sub:∀b,S1 b->S b/\b≠a) (r:OwL K G H vs ts S1):Ow K G H (.ref a) (.lst ts) S
 |tup {a:Addr} {vs:List V} {ts:List Tn} {S S1:AS} (h:H a=some (.tup vs)) (ha:S a) (sub:∀b,S1 b->S b/\b≠a) (r:OwL K G H vs ts S1):Ow K G H (.ref a) (.tup ts) S
 |dic {a:Addr} {kvs:List (At×V)} {zn:List (At×Tn)} {S S1:AS} (h:H a=some (.dK kvs)) (hk:kvs.map (·.1)=zn.map (·.1)) (ha:S a) (sub:∀b,S1 b->S b/\b≠a) (r:OwL K G H (kvs.map (·.2)) (zn.map (·.2)) S1):Ow K G H (.ref a) (.dic zn) S
 |obj {a C dx:Addr} {c:Str} {ns:List Str} {us:List V} {ts:List Tn} {S S1:AS} (hc:ClsAt K c C) (h:H a=some (.ins C dx (ns.zip us))) (hl:ns.length=us.length) (ha:S a) (sub:∀b,S1 b->S b/\b≠a) (r:OwL K G H us ts S1):Ow K G H (.ref a) (.obj c ns ts) S
inductive OwL(K:Frag)(G H:Hp):List V->List Tn->AS->Prop where
 |nil {S:AS}:OwL K G H [] [] S
 |cons {v:V} {t:Tn} {vs:List V} {ts:List Tn} {S S1 S2:AS} (h:Ow K G H v t S1) (r:OwL K G H vs ts S2) (dj:∀b,S1 b->S2 b->False) (s1:∀b,S1 b->S b) (s2:∀b,S2 b->S b):OwL K G H (v::vs) (t::ts) S
end
def Same.rdD{H H':Hp}{a:Addr}{u:HO}(e:Same H H')(h:Rd H a u):Rd H' a u:=by
 rcases h with h|⟨o,h⟩
 ·exact .inl (e _ _ h)
 ·exact .inr ⟨o,e _ _ h⟩
def Same.tupS{H H':Hp}{a:Addr}{xs:List V}(e:Same H H')(h:SqT K H a xs):SqT K H' a xs:=by
 rcases h with(h|⟨o,h⟩)|h
 ·exact .inl (.inl (e _ _ h))
 ·exact .inl (.inr ⟨o,e _ _ h⟩)
 ·exact .inr h
mutual
theorem Has.mono{G G':Hp}(e:Same G G'):∀{v:V} {d:D},Has K G v d->Has K G' v d
 |_,_,.non=> .non
 |_,_,.bl b=> .bl b
 |_,_,.int i=> .int i
 |_,_,.str x=> .str x
 |_,_,.lst h r=> .lst (e.seq h) (HasL.mono e r)
 |_,_,.tup h r=> .tup (Same.tupS e h) (HasL.mono e r)
 |_,_,.exn0 hc h=> .exn0 hc (e _ _ h)
 |_,_,.exn1 hc h hd hl r=> .exn1 hc (e _ _ h) (e _ _ hd) hl (HasL.mono e r)
 |_,_,.dic h hk r=> .dic (Same.rdD e h) hk (HasL.mono e r)
 |_,_,.obj hc h hl r=> .obj hc (e _ _ h) hl (HasL.mono e r)
theorem HasL.mono{G G':Hp}(e:Same G G'):∀{vs:List V} {ds:List D},HasL K G vs ds->HasL K G' vs ds
 |_,_,.nil=> .nil
 |_,_,.cons h r=> .cons (Has.mono e h) (HasL.mono e r)
end
theorem HasL.length{G:Hp}:∀{vs:List V} {ds:List D},HasL K G vs ds->vs.length=ds.length
 |_,_,.nil=>rfl
 |_,_,.cons _ r=>by rw [List.length_cons,List.length_cons,r.length]
theorem HasL.append{G:Hp}:∀{vs ws:List V} {ds es:List D},HasL K G vs ds->HasL K G ws es->HasL K G (vs ++ ws) (ds ++ es)
 |_,_,_,_,.nil,s=>s
 |_,_,_,_,.cons h r,s=> .cons h (r.append s)
theorem HasL.get{G:Hp}:∀{vs:List V} {ds:List D} {i:Nat} {d:D},HasL K G vs ds->ds[i]? =some d->∃v,vs[i]? =some v/\Has K G v d
 |_,_,_,_,.nil,e=>by simp at e
 |_,_,0,_,.cons h _,e=>by simp at e;subst e;exact⟨_,rfl,h⟩
 |_,_,i + 1,d,.cons _ r,e=>by
  obtain⟨u,h1,h2⟩:=HasL.get (i:=i) (d:=d) r (by simpa using e);exact⟨u,by simpa using h1,h2⟩
theorem HasL.take{G:Hp}:∀{vs:List V} {ds:List D} (n:Nat),HasL K G vs ds->HasL K G (vs.take n) (ds.take n)
 |_,_,0,_=> .nil
 |_,_,_ + 1,.nil=> .nil
 |_,_,n + 1,.cons h r=> .cons h (HasL.take n r)
theorem HasL.drop{G:Hp}:∀{vs:List V} {ds:List D} (n:Nat),HasL K G vs ds->HasL K G (vs.drop n) (ds.drop n)
 |_,_,0,r=>r
 |_,_,_ + 1,.nil=> .nil
 |_,_,n + 1,.cons _ r=>HasL.drop n r
theorem HasL.set{G:Hp}{d:D}(h:Has K G v d):∀{vs:List V} {ds:List D} (i:Nat),HasL K G vs ds->HasL K G (vs.set i v) (ds.set i d)
 |_,_,_,.nil=> .nil
 |_,_,0,.cons _ r=> .cons h r
 |_,_,i + 1,.cons q r=> .cons q (HasL.set h i r)
mutual
theorem Ow.mono{G G' H H':Hp}(e:Same G G'):∀{v:V} {d:Tn} {S S':AS},Ow K G H v d S->(∀b o,S b->H b=some o->H' b=some o)->(∀b,S b->S' b)->Ow K G' H' v d S'
 |_,_,_,_,.sh h,_,_=> .sh (h.mono e)
 |_,_,_,_,.lst h ha sub r,f,i=> .lst (f _ _ ha h) (i _ ha) (λb hb=>⟨i b (sub b hb).1,(sub b hb).2⟩) (OwL.mono e r (λb o hb q=>f b o (sub b hb).1 q) λ_ q=>q)
 |_,_,_,_,.tup h ha sub r,f,i=> .tup (f _ _ ha h) (i _ ha) (λb hb=>⟨i b (sub b hb).1,(sub b hb).2⟩) (OwL.mono e r (λb o hb q=>f b o (sub b hb).1 q) λ_ q=>q)
 |_,_,_,_,.dic h hk ha sub r,f,i=> .dic (f _ _ ha h) hk (i _ ha) (λb hb=>⟨i b (sub b hb).1,(sub b hb).2⟩) (OwL.mono e r (λb o hb q=>f b o (sub b hb).1 q) λ_ q=>q)
 |_,_,_,_,.obj hc h hl ha sub r,f,i=> .obj hc (f _ _ ha h) hl (i _ ha) (λb hb=>⟨i b (sub b hb).1,(sub b hb).2⟩) (OwL.mono e r (λb o hb q=>f b o (sub b hb).1 q) λ_ q=>q)
theorem OwL.mono{G G' H H':Hp}(e:Same G G'):∀{vs:List V} {ds:List Tn} {S S':AS},OwL K G H vs ds S->(∀b o,S b->H b=some o->H' b=some o)->(∀b,S b->S' b)->OwL K G' H' vs ds S'
 |_,_,_,_,.nil,_,_=> .nil
 |_,_,_,_,.cons h r dj s1 s2,f,i=> .cons (Ow.mono e h (λb o hb q=>f b o (s1 b hb) q) λ_ q=>q) (OwL.mono e r (λb o hb q=>f b o (s2 b hb) q) λ_ q=>q) dj (λb q=>i b (s1 b q)) λb q=>i b (s2 b q)
end
mutual
theorem Ow.has{G G' H:Hp}(e:Same G G'):∀{v:V} {d:Tn} {S:AS},Ow K G H v d S->(∀b o,S b->H b=some o->G' b=some o)->Has K G' v d.d
 |_,_,_,.sh h,_=>h.mono e
 |_,_,_,.lst h ha sub r,f=> .lst (SqL.of (f _ _ ha h)) (OwL.has e r λb o hb q=>f b o (sub b hb).1 q)
 |_,_,_,.tup h ha sub r,f=> .tup (SqT.of (f _ _ ha h)) (OwL.has e r λb o hb q=>f b o (sub b hb).1 q)
 |_,_,_,.dic h hk ha sub r,f=> .dic (.inl (f _ _ ha h)) (by rw [Tn.ks_fst];exact hk) (by rw [Tn.ks_snd];exact OwL.has e r λb o hb q=>f b o (sub b hb).1 q)
 |_,_,_,.obj hc h hl ha sub r,f=> .obj hc (f _ _ ha h) hl (OwL.has e r λb o hb q=>f b o (sub b hb).1 q)
theorem OwL.has{G G' H:Hp}(e:Same G G'):∀{vs:List V} {ds:List Tn} {S:AS},OwL K G H vs ds S->(∀b o,S b->H b=some o->G' b=some o)->HasL K G' vs (Tn.ds ds)
 |_,_,_,.nil,_=> .nil
 |_,_,_,.cons h r dj s1 s2,f=> .cons (Ow.has e h λb o hb q=>f b o (s1 b hb) q) (OwL.has e r λb o hb q=>f b o (s2 b hb) q)
end
theorem OwL.of{G H:Hp}:∀{vs:List V} {ds:List D} {S:AS},HasL K G vs ds->OwL K G H vs (ds.map .sh) S
 |_,_,_,.nil=> .nil
 |_,_,_,.cons h r=> .cons (S1:=λ_=>False) (S2:=λ_=>False) (.sh h) (OwL.of r) (λ_ z _=>z) (λ_ z=>z.elim) λ_ z=>z.elim
theorem OwL.off{G H:Hp}:∀{vs:List V} {ds:List D} {S:AS},OwL K G H vs (ds.map .sh) S->HasL K G vs ds
 |_,[],_,h=>by cases h;exact .nil
 |_,d::ds,_,h=>by
  cases h with
  |cons h r dj s1 s2=>
   cases h with
   |sh h=>exact .cons h (OwL.off r)
def Ow.list{G H:Hp}{a:Addr}{ds:List D}{S:AS}(h:H a=some (.lst vs))(ha:S a)(r:HasL K G vs ds):Ow K G H (.ref a) (Tn.of (.lst ds)) S:=
 .lst (S1:=λ_=>False) h ha (λ_ z=>z.elim) (.of r)
def Ow.list_of{G H:Hp}{ds:List D}{S:AS}(t:Ow K G H v (Tn.of (.lst ds)) S):∃a vs,v=.ref a/\S a/\H a=some (.lst vs)/\HasL K G vs ds:=by
 cases t with
 |lst h ha sub r=>exact⟨_,_,rfl,ha,h,r.off⟩
def dc_6(kds:List (At×D)):(kds.map λp=>(p.1,Tn.sh p.2)).map (·.2)=(kds.map (·.2)).map Tn.sh:=by
 rw [List.map_map,List.map_map];rfl
def cq_1(kds:List (At×D)):(kds.map λp=>(p.1,Tn.sh p.2)).map (·.1)=kds.map (·.1):=by
 rw [List.map_map];rfl
def Ow.dict{G H:Hp}{a:Addr}{kvs:List (At×V)}{kds:List (At×D)}{S:AS}(h:H a=some (.dK kvs))(hk:kvs.map (·.1)=kds.map (·.1))(ha:S a)(r:HasL K G (kvs.map (·.2)) (kds.map (·.2))):Ow K G H (.ref a) (Tn.of (.dic kds)) S:=
 .dic (S1:=λ_=>False) h (by rw [cq_1];exact hk) ha (λ_ z=>z.elim) (by rw [dc_6];exact .of r)
def Ow.dict_of{G H:Hp}{kds:List (At×D)}{S:AS}(t:Ow K G H v (Tn.of (.dic kds)) S):∃a kvs,v=.ref a/\S a/\H a=some (.dK kvs)/\kvs.map (·.1)=kds.map (·.1)/\HasL K G (kvs.map (·.2)) (kds.map (·.2)):=by
 generalize e:Tn.of (.dic kds)=t' at t;cases t with
 |dic h hk ha sub r=>
  injection e with e
  subst e;rw [dc_6] at r;rw [cq_1] at hk;exact⟨_,_,rfl,ha,h,hk,r.off⟩
 |_=>cases e
structure Step(G H G' H':Hp):Prop where
 hh:Same H H'
 gh:Same G' H'
 gg:Same G G'
 nw:∀b,G b=none->H b≠none->G' b=none
theorem Step.refl{G H:Hp}(h:Same G H):Step G H G H:=⟨Same.refl _,h,Same.refl _,λ_ e _=>e⟩
theorem Step.trans{G H G1 H1 G2 H2:Hp}(a:Step G H G1 H1)(b:Step G1 H1 G2 H2):Step G H G2 H2:=
 ⟨a.hh.trans b.hh,b.gh,a.gg.trans b.gg,λc e n=>b.nw c (a.nw c e n) λz=>n (a.hh.free z)⟩
def o_0{p:Addr}(h:H p=none)(o:HO):Same H (upd H p o):=λb u q=>by rw [Bm (Fz q h)];exact q
def dc_7{G H:Hp}(h:Same G H)(p:Addr)(o:HO):Same (upd G p o) (upd H p o):=λb u q=>by
 by_cases e:b=p
 ·subst e;rw [Cs] at q⊢;exact q
 ·rw [Bm e] at q⊢;exact h b u q
def Step.new{G H:Hp}(h:Same G H){p:Addr}(e:H p=none)(o:HO):Step G H (L2.upd G p o) (L2.upd H p o):=
 ⟨o_0 e o,dc_7 h p o,o_0 (h.free e) o,λb n z=>by
  by_cases q:b=p
  ·subst q;exact absurd e z
  ·rw [Bm q];exact n⟩
def Step.own{G H:Hp}(h:Same G H){p:Addr}(e:H p=none)(o:HO):Step G H G (L2.upd H p o):=
 ⟨o_0 e o,h.trans (o_0 e o),Same.refl _,λ_ n _=>n⟩
open Classical in
def Gr(G H:Hp)(S:AS):Hp:=λb=>if S b then H b else G b
def WP(K:Frag)(G H:Hp)(w:W)(Q:VK):Prop:=match w with
 | .sh d=>∀v G' H',Step G H G' H'->Has K G' v d->Q v H'
 | .ow d=>∀v S G' H',Step G H G' H'->(∀a,S a->H a=none/\G' a=none/\H' a≠none)->Ow K G' H' v (Tn.of d) S->Q v H'
 | .tr t=>∀v S G' H',Step G H G' H'->(∀a,S a->H a=none/\G' a=none/\H' a≠none)->Ow K G' H' v t S->Q v H'
structure EXT where
 p:Xn->Hp->Hp->Prop
 mono:∀x G H G' H',Step G H G' H'->p x G H->p x G' H'
def EX0:EXT:=⟨λ_ _ _=>False,λ_ _ _ _ _ _ h=>h⟩
abbrev Bo:=Sg->EXT
def Du:Bo:=λ_=>EX0
def Out(K:Frag)(EX:EXT)(G H:Hp)(r:R W)(Q:VK):Prop:=match r with
 | .ok w=>WP K G H w Q
 | .ex x=>EX.p x G H
 | .no=>False
section
variable{K:Frag}{EX:EXT}{G H G' H':Hp}{Q Q':VK}{w:W}
def WP.mono(s:Step G H G' H')(h:WP K G H w Q):WP K G' H' w Q:=by
 cases w with
 |sh d=>exact λv G2 H2 s2 r=>h v G2 H2 (s.trans s2) r
 |ow d=>exact λv S G2 H2 s2 fr t=>h v S G2 H2 (s.trans s2) (λa ha=>⟨s.hh.free (fr a ha).1,(fr a ha).2⟩) t
 |tr d=>exact λv S G2 H2 s2 fr t=>h v S G2 H2 (s.trans s2) (λa ha=>⟨s.hh.free (fr a ha).1,(fr a ha).2⟩) t
theorem Out.mono{r:R W}(s:Step G H G' H')(h:Out K EX G H r Q):Out K EX G' H' r Q:=by
 cases r with
 |ok w=>exact WP.mono s h
 |ex x=>exact EX.mono _ _ _ _ _ s h
 |no=>exact h
def WP.join{t:Tn}{S:AS}(h:∀v G' H',Step G H G' H'->Has K G' v t.d->Q v H')(s:Step G H G' H')(fr:∀a,S a->H a=none/\G' a=none/\H' a≠none)(t:Ow K G' H' v t S):Q v H':=by
 have sg:Same G' (Gr G' H' S):=λb o q=>by
  unfold Gr
  split
  ·rename_i hb;rw [(fr b hb).2.1] at q;cases q
  ·exact q
 refine h v (Gr G' H' S) H' ⟨s.hh,λb o q=> ?_,s.gg.trans sg,λb n z=> ?_⟩ (t.has sg λb o hb q=> ?_)
 ·unfold Gr at q
  split at q
  ·exact q
  ·exact s.gh b o q
 ·unfold Gr
  split
  ·rename_i hb;exact absurd (fr b hb).1 z
  ·exact s.nw b n z
 ·unfold Gr;rw [if_pos hb];exact q
def WP.intro(h:∀v G' H',Step G H G' H'->Has K G' v w.d->Q v H'):WP K G H w Q:=by
 cases w with
 |sh d=>exact h
 |ow d=>exact λv S G' H' s fr t=>WP.join (t:=Tn.of d) (by rw [Tn.of_d];exact h) s fr t
 |tr d=>exact λv S G' H' s fr t=>WP.join h s fr t
theorem WP.sh(h:WP K G H (.sh w.d) Q):WP K G H w Q:=WP.intro h
def WP.use{d:D}(h:WP K G H (.sh d) Q)(s:Same G H)(r:Has K G v d):Q v H:=h v G H (Step.refl s) r
end
inductive ExcAt(K:Frag)(G:Hp):Value->Option Addr->Xn->Prop where
 |bare {C:Addr} {c:Str} (hc:ClsAt K c C):ExcAt K G (.ref C) none ⟨c,[],[]⟩
 |with_ {C d:Addr} {c:Str} {ns:List Str} {us:List V} {vs:List D} (hc:ClsAt K c C) (hd:G d=some (.xd (ns.zip us))) (hl:ns.length=us.length) (r:HasL K G us vs):ExcAt K G (.ref C) (some d) ⟨c,ns,vs⟩
def EXof(K:Frag)(E:XK):EXT:=⟨λx G H=>∀cls dx G' H',Step G H G' H'->ExcAt K G' cls dx x->E cls dx H',λ_ _ _ _ _ s h cls dx G2 H2 s2=>h cls dx G2 H2 (s.trans s2)⟩
def EXE(K:Frag)(EX:EXT):XK:=λcls dx H=>∃x G,Same G H/\ExcAt K G cls dx x/\EX.p x G H
def EXE.of{E:XK}{cls:Value}{dx:Option Addr}(h:EXE K (EXof K E) cls dx H):E cls dx H:=by
 obtain⟨x,G,s,e,q⟩:=h;exact q cls dx G H (Step.refl s) e
def EXof.in{EX:EXT}{G H:Hp}{x:Xn}(q:EX.p x G H):(EXof K (EXE K EX)).p x G H:=λ_ _ G' H' st e=>⟨x,G',st.gh,e,EX.mono _ _ _ _ _ st q⟩
abbrev DE:=List (Option D)
abbrev FE:=DE->R W
abbrev FT:=DE->R Bool
abbrev FA:=DE->R (List D)
structure HasS(K:Frag)(G:Hp)(σ:Sg)(δ:DE):Prop where
 len:σ.length=δ.length
 get:∀(i:Nat) (d:D),δ[i]? =some (some d)->∃v,σ[i]? =some (some v)/\Has K G v d
theorem HasS.mono{G G':Hp}{σ:Sg}{δ:DE}(e:Same G G')(h:HasS K G σ δ):HasS K G' σ δ:=⟨h.len,λi d q=>by
 obtain⟨v,e1,r⟩:=h.get i d q;exact⟨v,e1,r.mono e⟩⟩
def tD(K:Frag)(EX:Bo)(f:FE):TE:=λ σ H Q=>∃G δ,Same G H/\HasS K G σ δ/\Out K (EX σ) G H (f δ) Q
def tDt(K:Frag)(EX:Bo)(f:FT):TT:=λ σ H Q=>∃G δ,Same G H/\HasS K G σ δ/\match f δ with
 | .ok b=>∀G' H',Step G H G' H'->Q b H'
 | .ex x=>(EX σ).p x G H
 | .no=>False
def tDa(K:Frag)(EX:Bo)(f:FA):TA:=λ σ H Q=>∃G δ,Same G H/\HasS K G σ δ/\match f δ with
 | .ok ds=>∀vs G' H',Step G H G' H'->HasL K G' vs ds->Q vs H'
 | .ex x=>(EX σ).p x G H
 | .no=>False
abbrev ED(X:Cx)(EX:Bo)(e:Expr)(f:FE):Prop:=PE X e (tD X.K EX f)
abbrev TD(X:Cx)(EX:Bo)(e:Expr)(f:FT):Prop:=PT X e (tDt X.K EX f)
abbrev AD(X:Cx)(EX:Bo)(es:List Expr)(f:FA):Prop:=PA X es (tDa X.K EX f)
def PE.imp{e:Expr}{t t':TE}(h:PE X e t)(i:∀σ H Q,t' σ H Q->t σ H Q):PE X e t':=λzd s σ H Q I q=>h zd s σ H Q I (i σ H Q q)
def PT.imp{e:Expr}{t t':TT}(h:PT X e t)(i:∀σ H Q,t' σ H Q->t σ H Q):PT X e t':=λzd s σ H Q I q=>h zd s σ H Q I (i σ H Q q)
def PW.imp{e:Expr}{t t':TT}(h:PW X e t)(i:∀σ H Q,t' σ H Q->t σ H Q):PW X e t':=λwh zd s σ H Q I q=>h wh zd s σ H Q I (i σ H Q q)
def PA.imp{e:List Expr}{t t':TA}(h:PA X e t)(i:∀σ H Q,t' σ H Q->t σ H Q):PA X e t':=λpos zd s σ H Q I q=>h pos zd s σ H Q I (i σ H Q q)
def PS.imp{e:Stmt}{t t':TS}(h:PS X e t)(i:∀D σ H,t' D σ H->t D σ H):PS X e t':=λzd s σ H D I q=>h zd s σ H D I (i D σ H q)
def PSs.imp{e:List Stmt}{t t':TS}(h:PSs X e t)(i:∀D σ H,t' D σ H->t D σ H):PSs X e t':=λzd s σ H D I q=>h zd s σ H D I (i D σ H q)
section
variable{K:Frag}{EX:Bo}{G H:Hp}{σ:Sg}{δ:DE}{Q:VK}
def tD.seq{f:FE}{k:W->R W}{P:VK}(g:Same G H)(s:HasS K G σ δ)(h:Out K (EX σ) G H ((f δ).bind k) Q)
  (i:∀w v G' H',f δ=.ok w->Step G H G' H'->Has K G' v w.d->Out K (EX σ) G' H' (k w) Q->P v H'):tD K EX f σ H P:=by
 refine⟨G,δ,g,s, ?_⟩;cases e:f δ with
 |ok w=>
  rw [e] at h;exact WP.intro λv G' H' st r=>i w v G' H' e st r (Out.mono st h)
 |ex x=>rw [e] at h;exact h
 |no=>rw [e] at h;exact h
def tDt.seq{f:FT}{k:Bool->R W}{P:Bool->Hp->Prop}(g:Same G H)(s:HasS K G σ δ)(h:Out K (EX σ) G H ((f δ).bind k) Q)
  (i:∀b G' H',f δ=.ok b->Step G H G' H'->Out K (EX σ) G' H' (k b) Q->P b H'):tDt K EX f σ H P:=by
 refine⟨G,δ,g,s, ?_⟩;cases e:f δ with
 |ok w=>
  rw [e] at h;exact λG' H' st=>i w G' H' e st (Out.mono st h)
 |ex x=>rw [e] at h;exact h
 |no=>rw [e] at h;exact h
def tDa.seq{f:FA}{k:List D->R W}{P:List V->Hp->Prop}(g:Same G H)(s:HasS K G σ δ)(h:Out K (EX σ) G H ((f δ).bind k) Q)
  (i:∀ds vs G' H',f δ=.ok ds->Step G H G' H'->HasL K G' vs ds->Out K (EX σ) G' H' (k ds) Q->P vs H'):tDa K EX f σ H P:=by
 refine⟨G,δ,g,s, ?_⟩;cases e:f δ with
 |ok w=>
  rw [e] at h;exact λvs G' H' st r=>i w vs G' H' e st r (Out.mono st h)
 |ex x=>rw [e] at h;exact h
 |no=>rw [e] at h;exact h
end
def z_1{EX:EXT}{G H:Hp}{Q:VK}{ds:List D}(o:Out K EX G H (.ok (.ow (.lst ds))) Q)(g:Same G H)(r:HasL K G vs ds):∀p,H p=none->Q (.ref p) (upd H p (.lst vs)):=
 λp hp=>o (.ref p) (λb=>b=p) G _ (Step.own g hp _) (λa e=>by subst e;exact⟨hp,g.free hp,by rw [Cs];simp⟩) (.list Cs rfl r)
end L3
namespace L3
open PySem PySem.Spec PyProof.Rows L2
variable{K:Frag}{fd:FuncData}{mg:Str->Option Value}{P:Program}{vs:List V}{us:List Value}{base:Heap}{H:Hp}{X:Cx}{pos:Pos}{v:V}
structure Tr(h:Heap)(a C:Addr)(dx:Option Addr)(fl:Value)(T:Addr):Prop where
 ob:∃o us,h.get? a=some o/\o.cls=.ref C/\o.dict=dx/\o.data=.fields us/\us[1]? =some (.ref T)
 ne:T≠a
 tb:∃o us,h.get? T=some o/\o.data=.fields us/\us[3]? =some fl
structure KeepX(xs fr:List Addr)(h h':Heap):Prop where
 same:∀b o,b∉xs->b∉fr->h.get? b=some o->h'.get? b=some o
 slot:∀b o,b∉xs->h.get? b=some o->∃sl,h'.get? b=some {o with slots:=sl}
def KeepX.trans{xs ys fr:List Addr}{h1 h2 h3:Heap}(a:KeepX xs fr h1 h2)(b:KeepX ys fr h2 h3):KeepX (xs ++ ys) fr h1 h3:=
 ⟨λc o n m e=>b.same c o (λz=>n (List.mem_append_right _ z)) m (a.same c o (λz=>n (List.mem_append_left _ z)) m e),λc o n e=>by
  obtain⟨sl,e1⟩:=a.slot c o (λz=>n (List.mem_append_left _ z)) e;obtain⟨sl',e2⟩:=b.slot c _ (λz=>n (List.mem_append_right _ z)) e1;exact⟨sl',e2⟩⟩
def KeepX.of_same{xs fr:List Addr}{h h':Heap}(k:∀b o,b∉xs->h.get? b=some o->h'.get? b=some o):KeepX xs fr h h':=
 ⟨λb o n _ e=>k b o n e,λb o n e=>⟨o.slots,k b o n e⟩⟩
def dc_8(o:Obj)(f:Array Value->Array Value):(o.mapFields f).dict=o.dict:=by
 obtain⟨c,d,dt,sl⟩:=o;cases dt <;> rfl
section
variable{M:Model}{A:Around}{E:Value->Shared->Prop}{s:Shared}{env:Env}{outer:List Env}{base:Heap}{L a C:Addr}{dx:Option Addr}{Q:Unit->Shared->Prop}
def cq_2{o:Obj}{us:Array Value}{head:Value}{b:Bool}(hfr:A.frames=some (env::outer))(hl:s.heap.FunFrames base (env::outer))(hf:env.frame=some L)
  (he:s.heap.get? a=some o) (hc:o.cls=.ref C) (hx:o.dict=dx) (hd:o.data=.fields us) (hz:1 < us.size)
  (h:∀h' T,s.heap.objs.size<=T->KeepX [a] (frs (env::outer)) s.heap h'->Tr h' a C dx (rawInt L) T->Q () {s with heap:=h'}):
  wpAny M A (do let fv<-frameOf env;let pl<-entryPlaceOf L b;let en<-EntryCells.newEntry head fv .none (rawInt L) .none pl;setField (.ref a) 1 en) Q E s:=by
 have nfr:a∉frs (env::outer):=λhm=>by
  obtain⟨_,u,hu,hn⟩:=hl.mem hm;rw [he] at hu;cases hu;exact hn us hd
 refine wpAny_bind (wpAny_frameOf_fun hfr hl hf λh1 so=> ?_);refine wpAny_bind (wpAny_entryPlaceOf λpl hpl=> ?_);unfold EntryCells.newEntry newFields;refine wpAny_bind (wpAny_newObj_type ?_ (hpl.sizeOk5 _ _ _ _ _));have e1:h1.get? a=some o:=(so.2.1 a nfr).trans he;generalize hT:({cls:=.type "traceback",dict:=none,data:=.fields ([head,.ref L,.none,rawInt L,.none] ++ (if pl.isEmpty then List.replicate 6 Value.none else pl)).toArray}:Obj)=oT;have eT:oT.data=.fields ([head,.ref L,.none,rawInt L,.none] ++ (if pl.isEmpty then List.replicate 6 Value.none else pl)).toArray:=by rw [<-hT]
 have e2:(h1.push oT).get? a=some o:=Heap.get?_push_of_some oT e1;refine wpAny_setField e2 hd hz ?_;have sz:h1.objs.size=s.heap.objs.size:=so.1;have ltA:a < s.heap.objs.size:=Heap.lt_size he;have neT:h1.objs.size≠a:=λz=>absurd ltA (by rw [<-z,sz];exact Nat.lt_irrefl _);have d3:=Obj.data_mapFields hd (·.setIfInBounds 1 (Value.ref h1.objs.size));refine h _ h1.objs.size (by rw [sz];exact Nat.le_refl _) ⟨λb u n m e=> ?_,λb u n e=> ?_⟩ ⟨⟨_,_,Heap.get?_update_self _ e2 (Obj.isFreed_of_fields d3),(Obj.cls_mapFields _ _).trans hc,(dc_8 _ _).trans hx,d3, ?_⟩,neT,⟨oT,_, ?_,eT, ?_⟩⟩
 ·have nb:a≠b:=λz=>n (by simp [z]);rw [Heap.get?_update_other _ _ nb];exact Heap.get?_push_of_some oT ((so.2.1 b m).trans e)
 ·have nb:a≠b:=λz=>n (by simp [z]);obtain⟨sl,es⟩:=so.2.2 b u e;exact⟨sl,by rw [Heap.get?_update_other _ _ nb];exact Heap.get?_push_of_some oT es⟩
 ·simp [hz]
 ·rw [Heap.get?_update_other _ _ (Ne.symm neT)];exact Heap.get?_push_size h1 (Obj.isFreed_of_fields eT)
 ·first|(simp;done)|(rcases hpl with rfl|⟨_,_,_,_,_,_,_,rfl⟩ <;> simp)
def ck_1{o:Obj}{us:Array Value}(hfr:A.frames=some (env::outer))(hl:s.heap.FunFrames base (env::outer))(hf:env.frame=some L)
  (he:s.heap.get? a=some o) (hc:o.cls=.ref C) (hx:o.dict=dx) (hd:o.data=.fields us) (h1:us[1]? =some .none)
  (h:∀h' T,s.heap.objs.size<=T->KeepX [a] (frs (env::outer)) s.heap h'->Tr h' a C dx (rawInt L) T->Q () {s with heap:=h'}):wpAny M A (noteFrame (.ref a) env) Q E s:=by
 unfold noteFrame;simp only [hf];refine wpAny_bind (wpAny_field he hd h1 ?_);rw [if_neg (by decide)];exact cq_2 hfr hl hf he hc hx hd (Array.getElem?_eq_some_iff.mp h1).1 h
def bm_3{T0:Addr}(hfr:A.frames=some (env::outer))(hl:s.heap.FunFrames base (env::outer))(hf:env.frame=some L)(t:Tr s.heap a C dx .none T0)
  (h:∀h' T,s.heap.objs.size<=T->KeepX [a,T0] (frs (env::outer)) s.heap h'->Tr h' a C dx (rawInt L) T->Q () {s with heap:=h'}):wpAny M A (noteFrame (.ref a) env) Q E s:=by
 obtain⟨⟨o,us,he,hc,hx,hd,h1⟩,ne,⟨oT,ws,hT,hdT,h3⟩⟩:=t;unfold noteFrame;simp only [hf];refine wpAny_bind (wpAny_field he hd h1 ?_);rw [if_pos (show(Value.ref T0 != Value.none)=true from by simp)];refine wpAny_bind (wpAny_field hT hdT h3 ?_);rw [if_neg (show¬((Value.none ==rawInt L)=true) from by simp [rawInt])];refine wpAny_bind (wpAny_setField hT hdT (Array.getElem?_eq_some_iff.mp h3).1 ?_);have oth:∀b,b≠T0->(s.heap.update T0 (Obj.mapFields (·.setIfInBounds 3 Value.none))).get? b=s.heap.get? b:=λb hb=>Heap.get?_update_other _ _ (Ne.symm hb);have fb:∀b u,s.heap.get? b=some u->(∀zs,u.data≠ .fields zs)->b≠T0:=λb u hb hn q=>by
  subst q;rw [hT] at hb;cases hb;exact hn ws hdT
 refine cq_2 (s:={s with heap:=s.heap.update T0 (Obj.mapFields (·.setIfInBounds 3 Value.none))}) hfr (hl.of_keeps λb u hb hn=>⟨u,(oth b (fb b u hb hn)).trans hb,rfl⟩) hf ((oth a (Ne.symm ne)).trans he) hc hx hd (Array.getElem?_eq_some_iff.mp h1).1 λh' T n k tr=>h h' T ?_ ?_ tr
 ·have zz:(s.heap.update T0 (Obj.mapFields (·.setIfInBounds 3 Value.none))).objs.size=s.heap.objs.size:=Heap.size_update _ _ _;rw [<-zz];exact n
 ·have na:∀b,b∉ [a,T0]->b∉ [a]:=λb nb z=>nb (by rw [List.mem_singleton.mp z];exact List.mem_cons_self);have nT:∀b,b∉ [a,T0]->b≠T0:=λb nb z=>nb (by rw [z];simp);exact⟨λb u nb m e=>k.same b u (na b nb) m ((oth b (nT b nb)).trans e),λb u nb e=>k.slot b u (na b nb) ((oth b (nT b nb)).trans e)⟩
def z_2{T:Addr}{fl:Value}(t:Tr s.heap a C dx fl T)(h:∀h',(∀b o,b∉ [T]->s.heap.get? b=some o->h'.get? b=some o)->Tr h' a C dx .none T->Q () {s with heap:=h'}):wpAny M A (setFlight (.ref a) none) Q E s:=by
 obtain⟨⟨o,us,he,hc,hx,hd,h1⟩,ne,⟨oT,ws,hT,hdT,h3⟩⟩:=t;have sz3:3 < ws.size:=(Array.getElem?_eq_some_iff.mp h3).1;unfold setFlight;refine wpAny_bind (wpAny_field he hd h1 ?_);rw [if_pos (show(Value.ref T != Value.none)=true from by simp)];refine wpAny_setField hT hdT sz3 (h _ (λb u n e=> ?_) ⟨⟨o,us, ?_,hc,hx,hd,h1⟩,ne,⟨_,_,Heap.get?_update_self _ hT (Obj.isFreed_of_fields (Obj.data_mapFields hdT _)),Obj.data_mapFields hdT _, ?_⟩⟩)
 ·rw [Heap.get?_update_other _ _ (λz=>n (by simp [z]))];exact e
 ·rw [Heap.get?_update_other _ _ ne];exact he
 ·simp [sz3]
end
def CXr(P:Program)(w:World):CXT:=λouter H s E e s'=>∃a C dx T H',e=.ref a/\s'.os=s.os/\AllBare s'.gens/\Un (frs outer) [] H H' s.heap s'.heap/\HOk P w H' s'.heap/\
 Tr s'.heap a C dx .none T/\H' a=none/\H' T=none/\s.heap.objs.size<=a/\s.heap.objs.size<=T/\E (.ref C) dx H'
section
variable{X:Cx}{zd:List (Addr×Obj)}{σ:Sg}{H H':Hp}{s s':Shared}
def Inv.settle{ch:List Addr}{h2:Heap}(I:Inv X zd σ H s)(I':Inv X zd σ H' s')(n:∀b∈ch,s.heap.objs.size<=b/\H' b=none)(k:KeepX ch (frs X.stack) s'.heap h2):Inv X zd σ H' {s' with heap:=h2}:=by
 have trk:∀b u,H' b=some u->b∉ch/\b∉frs X.stack:=λb u e=>⟨λz=>(by rw [(n b z).2] at e;cases e),λz=>(by rw [I'.stkFree b z] at e;cases e)⟩;refine I'.step (g':=s'.gens) (d':=s'.drawn) (t':=s'.toks) (ch:=ch) (λb hb=> ?_) (λb o h1 h2 h3 e _=>k.same b o h3 (λz=> ?_) e) (λb o _ _ h3 e _=>k.slot b o h3 e) (λ_ _ _ _ z=>z) (λb o h3 e=> ?_) (λ_ _ z=>z) (λ_ _ _ z=>z) (λb ps z=>⟨#[],by rw [z];simp⟩) (λm hm=> ?_) (λb u e=> ?_) I'.bare
 ·have lb:=(n b hb).1;refine⟨.inr (Nat.le_trans I.sz lb),λz=> ?_,λx c e z=> ?_,λp hp z=> ?_⟩
  ·exact absurd (Nat.lt_of_lt_of_le I.lt lb) (by rw [z];exact Nat.lt_irrefl _)
  ·obtain⟨v,hv⟩:=I.cell x c e;exact absurd (Nat.lt_of_lt_of_le hv.lt lb) (by rw [z];exact Nat.lt_irrefl _)
  ·exact absurd (Nat.lt_of_lt_of_le (Heap.lt_size (I.pin p hp).1) lb) (by rw [z];exact Nat.lt_irrefl _)
 ·rcases List.mem_cons.mp (I'.stkSub b z) with z|z
  ·exact h1 z
  ·exact h2 z
 ·obtain⟨sl,q⟩:=k.slot b o h3 e;exact⟨_,q⟩
 ·obtain⟨o,es,ep,ho,r⟩:=hm;have nl:X.env.locals∉ch:=λz=>absurd (Nat.lt_of_lt_of_le I.lt (n _ z).1) (Nat.lt_irrefl _);obtain⟨sl,q⟩:=k.slot _ o nl ho;exact⟨_,es,ep,q,r⟩
 ·refine(I'.hok b u e).stay (λc v hc q=> ?_) (λ_ z=>z) λ_ _ z=>z;rcases hc with rfl|hc
  ·exact k.same c v (trk c u e).1 (trk c u e).2 q
  ·exact k.same c v (trk c _ hc).1 (trk c _ hc).2 q
def Inv.raised{E:XK}{e:Value}(I:Inv X zd σ H s)(c:CXr X.prog X.w X.stack H s E e s'):∃a C dx T H',e=.ref a/\Inv X zd σ H' s'/\Tr s'.heap a C dx .none T/\H' a=none/\H' T=none/\s.heap.objs.size<=a/\s.heap.objs.size<=T/\E (.ref C) dx H':=by
 obtain⟨a,C,dx,T,H',e1,os,br,un,hok,tr,n1,n2,z1,z2,q⟩:=c;exact⟨a,C,dx,T,H',e1,I.call' (ch:=[]) os un hok br (λb z=>absurd z (by simp)),tr,n1,n2,z1,z2,q⟩
end
section
variable{cm:Bool}{P:Program}{w:World}{K:Frag}{mg:Str->Option Value}{base:Heap}{N:List Str}{qual:Str}{scope:Scope}{f:Addr}{cd:Value}{A:Around}{outer:List Env}{s0:Shared}{H0:Hp}{E E':XK}
def cv_8{zd:List (Addr×Obj)}{σ:Sg}{s s':Shared}{e:Value}(I:Inv ({Fm (CXr P w) P w K mg base N qual scope f cd A outer s0 H0 E with calm:=cm}:Cx) zd σ H s)
  (c:CXr P w ({Fm (CXr P w) P w K mg base N qual scope f cd A outer s0 H0 E with calm:=cm}:Cx).stack H s E' e s') (i:∀cls dx H',E' cls dx H'->E cls dx H'):({Fm (CXr P w) P w K mg base N qual scope f cd A outer s0 H0 E with calm:=cm}:Cx).xe e s':=by
 obtain⟨a,C,dx,T,H',rfl,I',tr,n1,n2,z1,z2,q⟩:=Inv.raised I c;show wpAny (model P w) _ (leaving _ _) _ _ s';unfold leaving;refine wpAny_bind (bm_3 I'.ok.frames I'.stack rfl tr λh1 T2 z3 k1 t1=> ?_);refine z_2 t1 λh2 k2 t2=> ?_;have zT2:H' T2=none:=I'.hok.fresh z3;have J:Inv ({Fm (CXr P w) P w K mg base N qual scope f cd A outer s0 H0 E with calm:=cm}:Cx) zd σ H' {s' with heap:=h2}:=by
  refine Inv.settle (ch:=[a,T] ++ [T2]) I I' (λb hb=> ?_) (k1.trans (KeepX.of_same k2));have:b=a\/b=T\/b=T2:=by simpa using hb
  rcases this with rfl|rfl|rfl
  ·exact⟨z1,n1⟩
  ·exact⟨z2,n2⟩
  ·exact⟨Nat.le_trans (Nat.le_trans (Nat.le_refl _) z1) (Nat.le_trans (Nat.le_of_lt (Heap.lt_size tr.ob.choose_spec.choose_spec.1)) z3),zT2⟩
 exact⟨a,C,dx,T2,H',rfl,J.os,J.bare,J.base,J.hok,t2,n1,zT2,Nat.le_trans I.sz z1,Nat.le_trans I'.sz z3,i _ _ _ q⟩
def br_8{zd:List (Addr×Obj)}{σ:Sg}{H H':Hp}{s s':Shared}{a C:Addr}{dx:Option Addr}{o:Obj}{us:Array Value}(I:Inv ({Fm (CXr P w) P w K mg base N qual scope f cd A outer s0 H0 E with calm:=cm}:Cx) zd σ H s)
  (I':Inv ({Fm (CXr P w) P w K mg base N qual scope f cd A outer s0 H0 E with calm:=cm}:Cx) zd σ H' s') (he:s'.heap.get? a=some o) (hc:o.cls=.ref C) (hx:o.dict=dx) (hd:o.data=.fields us) (h1:us[1]? =some .none) (n1:H' a=none) (z1:s.heap.objs.size<=a) (q:E (.ref C) dx H'):
  ({Fm (CXr P w) P w K mg base N qual scope f cd A outer s0 H0 E with calm:=cm}:Cx).xe (.ref a) s':=by
 show wpAny (model P w) _ (leaving _ _) _ _ s';unfold leaving;refine wpAny_bind (ck_1 I'.ok.frames I'.stack rfl he hc hx hd h1 λh1 T2 z3 k1 t1=> ?_);refine z_2 t1 λh2 k2 t2=> ?_;have zT2:H' T2=none:=I'.hok.fresh z3;have J:Inv ({Fm (CXr P w) P w K mg base N qual scope f cd A outer s0 H0 E with calm:=cm}:Cx) zd σ H' {s' with heap:=h2}:=by
  refine Inv.settle (ch:=[a] ++ [T2]) I I' (λb hb=> ?_) (k1.trans (KeepX.of_same k2));have:b=a\/b=T2:=by simpa using hb
  rcases this with rfl|rfl
  ·exact⟨z1,n1⟩
  ·exact⟨Nat.le_trans z1 (Nat.le_trans (Nat.le_of_lt (Heap.lt_size he)) z3),zT2⟩
 exact⟨a,C,dx,T2,H',rfl,J.os,J.bare,J.base,J.hok,t2,n1,zT2,Nat.le_trans I.sz z1,Nat.le_trans I'.sz z3,q⟩
end
section
variable{prog:Program}{w:World}{A:Around}{E:Value->Shared->Prop}{h:Heap}{g:Array GenState}{d:Drawn}{t:Nat}{os:OsState}
variable{nm q:Str}{C N:Addr}{bs bm bmB:List Value}{az:Bool}{sn:List Str}{sub:List Value}{ab:Bool}{col:Option Bool}{dd:Option Addr}{k0 k1 k2 k3 k5:Option Value}{B newId ai:String}
def cv_9(FB:ExcBaseFacts B newId ai bmB)(T:OwnTail h bmB bm){mN:Str->Option Value}{fI:Addr}{oI:Obj}{Q:PySem.Fin->Shared->Prop}
  (hC:h.get? C=some (excClassObj nm q C N bs bm az sn sub ab col dd k0 k1 k2 k3 k5 newId)) (hn:h.Ns N mN) (hi:mN "__init__" =some (.ref fI)) (ho:h.get? fI=some oI) (hf:oI.cls=.type "function")
  (z:∀h' e,Heap.MadeExcOf h h' e (.ref C) us->h.objs.size<=e->wpAny (model prog w) A (call (.ref fI) (.ref e::us)) (λr s'=>r=.none/\Q (.done (.ret (.ref e))) s') E ⟨h',g,d,t,os⟩) (hu:us.length<=sizeLine):
  wpAny (model prog w) A (Builtin.«type.__call__» ⟨.ref C::us,[]⟩) Q E ⟨h,g,d,t,os⟩:=by
 wp_walk using wpAny_loadPart_at hC,wpAny_madeBy_exc hC
 refine codeAny_call_builtin_code (Code.quiet_builtin _ FB.quiet) (wpAny_check_new_subT FB T hC ?_);refine codeAny_exc_new_subT FB T hC ?_ hu;show wpAny _ _ _ _ _ _;generalize e1:({cls:=.type "tuple",data:=.seq us.toArray}:Obj)=o1;generalize e2:({cls:=.ref C,data:=.fields #[.ref h.objs.size,.none,.none,.none,.bool false,.none]}:Obj)=o2;have up:∀b o,h.get? b=some o->((h.push o1).push o2).get? b=some o:=λb o e=>Heap.get?_push_of_some _ (Heap.get?_push_of_some _ e);have ge:((h.push o1).push o2).get? (h.objs.size + 1)=some o2:=by
  have:=Heap.get?_push_size (h.push o1) (o:=o2) (by rw [<-e2];rfl)
  rwa [Heap.size_push] at this
 have gt:((h.push o1).push o2).get? h.objs.size=some o1:=Heap.get?_push_of_some _ (Heap.get?_push_size h (by rw [<-e1];rfl));have hC1:=up _ _ hC;have hn1:((h.push o1).push o2).Ns N mN:=hn.keeps up;have cl:o2.cls=.ref C:=by rw [<-e2]
 have hcC:List.contains (Value.ref C::bm) (.ref C)=true:=List.contains_iff_mem.mpr (.head _);unfold isInstance
 repeat (first|(with_reducible refine wpAny_loadPart_at ge ?_;rw [cl])|(with_reducible refine wpAny_isSubtype_exc hC1 ?_;rw [hcC])|wp_step)
 change wpAny _ _ (mroOf (.ref C) >>=λl=>lookupAlong l _) _ _ _;refine wpAny_bind (wpAny_mroOf_exc hC1 ?_);rw [lookupAlong_cons];refine wpAny_bind (wpAny_classOwn_exc hC1 hn1 ?_);rw [hi];refine wpAny_pure (wpAny_holding (wpAny_bind ?_));unfold bindSpecial;refine wpAny_bind (wpAny_typeOf (T:= "function") ⟨_,up _ _ ho,hf⟩ ?_);rw [if_pos (by decide)];refine wpAny_pure (wpAny_bind (wpAny_mono (z _ (h.objs.size + 1) ⟨up,Heap.get?_none_of_le (Nat.le_succ _),h.objs.size,by rw [e2];exact ge,Heap.get?_none_of_le (Nat.le_refl _),by rw [e1];exact gt⟩ (Nat.le_succ _)) (λr s' hr=> ?_) λ_ _ x=>x));obtain⟨rfl,hQ⟩:=hr
 wp_walk
 exact hQ
def dc_9(FB:ExcBaseFacts B newId ai bmB)(T:OwnTail h bmB bm){mN:Str->Option Value}{fI:Addr}{oI:Obj}{Q:Value->Shared->Prop}
  (hC:h.get? C=some (excClassObj nm q C N bs bm az sn sub ab col dd k0 k1 k2 k3 k5 newId)) (hn:h.Ns N mN) (hi:mN "__init__" =some (.ref fI)) (ho:h.get? fI=some oI) (hf:oI.cls=.type "function")
  (z:∀h' e,Heap.MadeExcOf h h' e (.ref C) us->h.objs.size<=e->wpAny (model prog w) (A.under (.builtin "type.__call__" ⟨.ref C::us,[]⟩)) (call (.ref fI) (.ref e::us)) (λr s'=>r=.none/\Q (.ref e) s') E ⟨h',g,d,t,os⟩) (hu:us.length<=sizeLine):
  wpAny (model prog w) A (call (.ref C) us) Q E ⟨h,g,d,t,os⟩:=by
 have f1:=tc_lookup;have f2:=tc_bind (.ref C);have De:Shared.TypeIs ⟨h,g,d,t,os⟩ (.ref C) "type" :=⟨_,hC,rfl⟩;refine wpAny_call (codeAny_of_tree (?_:wpAny _ _ (callAny (.ref C) _) _ _ _))
 wp_walk using wpAny_loadPart_at hC
 refine⟨rfl, ?_⟩;exact codeAny_call_builtin_at (Code.quiet_builtin _ (by decide +kernel)) entry_typeCall (wpAny_check_type_call_sub hC (cv_9 FB T hC hn hi ho hf (λh' e hm hz=>z h' e hm hz) hu))
def bm_4{M:Model}{env:Env}{s:Shared}{x:Sem Value}{Q:Flow->Shared->Prop}(hb:bm.contains (.type "BaseException")=true)(hh:A.handled=none)
  (z:wpAny M A x (λv s1=>∃e t dx,v=.ref e/\s1.heap.get? C=some (excClassObj nm q C N bs bm az sn sub ab col dd k0 k1 k2 k3 k5 newId)/\
   s1.heap.get? e=some {cls:=.ref C,dict:=dx,data:=.fields #[.ref t,.none,.none,.none,.bool false,.none]}/\E (.ref e) s1) E s):wpAny M A (raiseStmt env (some x) none) Q E s:=by
 have hcB:(Value.ref C::bm).contains (.type "BaseException")=true:=by rw [List.contains_cons,hb,Bool.or_true]
 unfold raiseStmt;refine wpAny_bind (wpAny_mono z (λv s1 z1=> ?_) λ_ _ y=>y);obtain⟨e,t,dx,rfl,hC,he,hE⟩:=z1;obtain⟨hp,g,d,tk,os⟩:=s1
 repeat (first|with_reducible refine wpAny_loadPart_at he ?_|with_reducible refine wpAny_loadPart_at hC ?_|(with_reducible refine wpAny_isSubtype_exc hC ?_;rw [hcB])|wp_step)
 exact wpAny_raiseNew_none hh hE
end
section
variable{X:Cx}{EX:Bo}{a b c:Expr}{f g h:FE}{pos:Pos}
def Ab(i:Nat):FE:=λ δ=>match δ[i]? with
 |some (some d)=> .ok (.sh d)
 |_=> .no
def eC(d:D):FE:=λ_=> .ok (.sh d)
def Ad(i:Nat){x:Str}(hN:X.N[i]? =some x:=by rfl)(hv:Vis X.env.scope x:=by first|exact Or.inl rfl|exact Or.inr (Or.inl rfl)|exact Or.inr (Or.inr rfl))(hd:(x ==("__debug__" :Str))=false:=by decide)
  (hcd:(x ==("__classdict__" :Str))=false:=by decide):ED X EX (.Name x pos) (Ab i):=
 PE.imp (Fe hN hv hd hcd) λ σ H Q ⟨G,δ,g,s,o⟩=>by
  unfold Ab at o
  split at o
  ·rename_i d e;obtain⟨v,e1,r⟩:=s.get i d e;exact⟨v,e1,WP.use o g r⟩
  ·exact o.elim
def ab_6{e:Expr}{d:D}(he:PE X e (tC v))(hd:∀G,Has X.K G v d):ED X EX e (eC d):=
 PE.imp he λ σ H Q ⟨G,δ,g,s,o⟩=>WP.use o g (hd G)
def Au{i:Int}{j pos}:ED X EX (.Constant (.int i) j pos) (eC (.int i)):=ab_6 dx_5 λ_=> .int i
def ax_0{b:Bool}{j pos}:ED X EX (.Constant (.bool b) j pos) (eC (.bl b)):=ab_6 ef_3 λ_=> .bl b
def br_9{j pos}:ED X EX (.Constant .none j pos) (eC .non):=ab_6 da_7 λ_=> .non
def Gc{x:Str}{j pos}:ED X EX (.Constant (.str x) j pos) (eC (.str x)):=ab_6 dx_6 λ_=> .str x
def ad_8{x:Str}{i:Int}{t:Tok}(hg:Gl X x)(hm:X.mg x=some (.int i t))(hd:(x ==("__debug__" :Str))=false:=by decide):ED X EX (.Name x pos) (eC (.int i)):=ab_6 (br_0 (v:=.int i) hg hm ⟨t,rfl⟩ hd) λ_=> .int i
def cq_3{x:Str}{z:Str}{t:Tok}(hg:Gl X x)(hm:X.mg x=some (.str z t))(hd:(x ==("__debug__" :Str))=false:=by decide):ED X EX (.Name x pos) (eC (.str z)):=ab_6 (br_0 (v:=.str z) hg hm ⟨t,rfl⟩ hd) λ_=> .str z
def rD(K:Frag)(r:D->D->R W):R2:=λx y H Q=>∃(EX:EXT) (G:Hp) (a b:D),Same G H/\Has K G x a/\Has K G y b/\Out K EX G H (r a b) Q
abbrev Fa(X:Cx)(f:Value->Value->Sem Value)(r:D->D->R W):Prop:=Ea X f (rD X.K r)
def Ak(r:D->D->R W)(f g:FE):FE:=λ δ=>(f δ).bind λa=>(g δ).bind λb=>r a.d b.d
def two{r:D->D->R W}{σ:Sg}{Q:VK}(q:tD K EX (Ak r f g) σ H Q):tOp (rD K r) (tD K EX f) (tD K EX g) σ H Q:=by
 obtain⟨G,δ,g0,s0,o⟩:=q;exact tD.seq g0 s0 o λw v G1 H1 _ st1 r1 o1=>tD.seq st1.gh (s0.mono st1.gg) o1 λw2 v2 G2 H2 _ st2 r2 o2=>⟨_,G2,w.d,w2.d,st2.gh,r1.mono st2.gg,r2,o2⟩
def Ay{op:Operator}{r:D->D->R W}(ho:Fa X (binaryOp op) r)(ha:ED X EX a f)(hb:ED X EX b g):ED X EX (.BinOp a op b pos) (Ak r f g):=
 PE.imp (dv_7 ho ha hb) λ_ _ _ q=>two q
def ao_2{op:CmpOp}{r:D->D->R W}(ho:Fa X (compareOp op) r)(ha:ED X EX a f)(hb:ED X EX b g)(hm:behindInMarks op b=false):ED X EX (.Compare a [op] [b] pos) (Ak r f g):=
 PE.imp (dn_2 ho ha hb hm) λ_ _ _ q=>two q
def Dn:D->R Bool
 | .bl b=> .ok b
 |_=> .no
def Ao(f:FE):FT:=λ δ=>(f δ).bind λw=>Dn w.d
def do_4{σ:Sg}{Q:Bool->Hp->Prop}(q:tDt K EX (Ao f) σ H Q):tD K EX f σ H λx H'=>∃k,x=.bl k/\Q k H':=by
 obtain⟨G,δ,g0,s0,o⟩:=q;refine⟨G,δ,g0,s0, ?_⟩;unfold Ao at o;cases e:f δ with
 |ok w=>
  rw [e] at o;simp only [R.bind_ok] at o;refine WP.intro λv G' H' st r=> ?_;revert r o;cases w.d with
  |bl k=>intro o r;cases r;exact⟨k,rfl,o G' H' st⟩
  |_=>intro o _;exact False.elim o
 |ex x=>rw [e] at o;exact o
 |no=>rw [e] at o;exact o
def Cl{op:CmpOp}{r:D->D->R W}(ho:Fa X (compareOp op) r)(ha:ED X EX a f)(hb:ED X EX b g)(hm:behindInMarks op b=false):TD X EX (.Compare a [op] [b] pos) (Ao (Ak r f g)):=
 PT.imp (dn_3 ho ha hb hm) λ σ H Q q=>two (do_4 q)
def ao_3(r r':D->D->R W)(f g h:FE):FE:=λ δ=>(f δ).bind λa=>(g δ).bind λb=>(r a.d b.d).bind λz=>(Dn z.d).bind λk=>
 if k=true then(h δ).bind λc=>r' b.d c.d else .ok (.sh (.bl false))
def eh_7{r r':D->D->R W}{σ:Sg}{Q:VK}(q:tD K EX (ao_3 r r' f g h) σ H Q):db_3 (rD K r) (rD K r') (tD K EX f) (tD K EX g) (tD K EX h) σ H Q:=by
 obtain⟨G,δ,g0,s0,o⟩:=q;refine tD.seq g0 s0 o λw v G1 H1 _ st1 r1 o1=>tD.seq st1.gh (s0.mono st1.gg) o1 λw2 v2 G2 H2 _ st2 r2 o2=>⟨EX σ,G2,w.d,w2.d,st2.gh,r1.mono st2.gg,r2, ?_⟩;revert o2;cases r w.d w2.d with
 |ok z=>
  intro o2;refine WP.intro λv3 G3 H3 st3 r3=> ?_;have o2:Out K (EX σ) G2 H2 ((Dn z.d).bind λk=>if k=true then(h δ).bind λc=>r' w2.d c.d else .ok (.sh (.bl false))) Q:=o2;revert r3 o2;cases z.d with
  |bl k=>
   intro r3 o2;cases r3;refine⟨k,rfl, ?_⟩;cases k with
   |true=>
    rw [if_pos rfl];have o3:Out K (EX σ) G2 H2 ((h δ).bind λc=>r' w2.d c.d) Q:=o2;exact tD.seq st3.gh (s0.mono (st1.gg.trans (st2.gg.trans st3.gg))) (o3.mono st3) λw4 v4 G4 H4 _ st4 r4 o4=>⟨_,G4,w2.d,w4.d,st4.gh,r2.mono (st3.gg.trans st4.gg),r4,o4⟩
   |false=>
    rw [if_neg Bool.false_ne_true];have o3:WP K G2 H2 (.sh (.bl false)) Q:=o2;exact(o3.mono st3).use st3.gh (.bl false)
  |_=>intro _ o2;exact False.elim o2
 |ex x=>exact λo2=>o2
 |no=>exact λo2=>o2
def bz_6{op op':CmpOp}{r r':D->D->R W}(ho:Fa X (compareOp op) r)(ho':Fa X (compareOp op') r')(ha:ED X EX a f)(hb:ED X EX b g)(hc:ED X EX c h)
  (hm:lastMarks [op,op'] [b,c]=false:=by with_unfolding_all rfl):ED X EX (.Compare a [op,op'] [b,c] pos) (ao_3 r r' f g h):=
 PE.imp (db_4 ho ho' ha hb hc hm) λ_ _ _ q=>eh_7 q
abbrev TW(X:Cx)(EX:Bo)(e:Expr)(f:FT):Prop:=PW X e (tDt X.K EX f)
variable{p q:FT}{En:List Expr}
def Eo(p q:FT):FT:=λ δ=>(p δ).bind λb=>if b=true then q δ else .ok false
def tOrF(p q:FT):FT:=λ δ=>(p δ).bind λb=>if b=true then .ok true else q δ
def Fq(p:FT):FT:=λ δ=>(p δ).bind λb=> .ok (!b)
def cq_4(ha:TD X EX a p):TW X EX (.BoolOp .And [a] pos) p:=dm_6 ha
def bd_2(ha:TD X EX a p):TW X EX (.BoolOp .Or [a] pos) p:=dx_7 ha
def tDt.two{σ:Sg}{Q:Bool->Hp->Prop}{k:Bool->DE->R Bool}{P:Bool->Hp->Prop}(h:tDt K EX (λ δ=>(p δ).bind λb=>k b δ) σ H Q)
  (i:∀b H',tDt K EX (k b) σ H' Q->P b H'):tDt K EX p σ H P:=by
 obtain⟨G,δ,g0,s0,o⟩:=h;refine⟨G,δ,g0,s0, ?_⟩;cases e:p δ with
 |ok b=>
  simp only [e,R.bind_ok] at o;refine λG' H' st=>i b H' ⟨G',δ,st.gh,s0.mono st.gg, ?_⟩;cases e2:k b δ with
  |ok c=>rw [e2] at o;exact λG2 H2 st2=>o G2 H2 (st.trans st2)
  |ex x=>rw [e2] at o;exact(EX σ).mono _ _ _ _ _ st o
  |no=>rw [e2] at o;exact o
 |ex x=>simp only [e,R.bind_ex] at o;exact o
 |no=>simp only [e,R.bind_no] at o
def tDt.now{σ:Sg}{Q:Bool->Hp->Prop}{c:Bool}(h:tDt K EX (λ_=> .ok c) σ H Q):Q c H:=by
 obtain⟨G,δ,g0,s0,o⟩:=h;exact o G H (Step.refl g0)
def dd_0(ha:TD X EX a p)(hb:TW X EX (.BoolOp .And (b::En) pos) q):TW X EX (.BoolOp .And (a::b::En) pos) (Eo p q):=
 PW.imp (dx_8 ha hb) λ σ H Q h=>tDt.two (k:=λb δ=>if b=true then q δ else .ok false) h λb H' h'=>by
  cases b with
  |true=>rw [if_pos rfl];exact h'
  |false=>rw [if_neg Bool.false_ne_true];exact tDt.now h'
def bz_7(ha:TD X EX a p)(hb:TW X EX (.BoolOp .Or (b::En) pos) q):TW X EX (.BoolOp .Or (a::b::En) pos) (tOrF p q):=
 PW.imp (ef_4 ha hb) λ σ H Q h=>tDt.two (k:=λb δ=>if b=true then .ok true else q δ) h λb H' h'=>by
  cases b with
  |true=>rw [if_pos rfl];exact tDt.now h'
  |false=>rw [if_neg Bool.false_ne_true];exact h'
def td_w{e:Expr}(h:TW X EX e p):TD X EX e p:=h.pt
def bd_3(ha:TD X EX a p):TD X EX (.UnaryOp .Not a pos) (Fq p):=
 PT.imp (dx_9 ha) λ σ H Q h=>tDt.two (k:=λb _=> .ok (!b)) h λb H' h'=>tDt.now h'
def eAnd(f g:FE):FE:=λ δ=>(f δ).bind λa=>(Dn a.d).bind λk=>if k=true then g δ else .ok (.sh (.bl false))
def eOr(f g:FE):FE:=λ δ=>(f δ).bind λa=>(Dn a.d).bind λk=>if k=true then .ok (.sh (.bl true)) else g δ
def eNot(f:FE):FE:=λ δ=>(f δ).bind λa=>(Dn a.d).bind λk=> .ok (.sh (.bl (!k)))
def ck_3{op}(h:ED X EX a f):ED X EX (.BoolOp op [a] pos) f:=dy_0 h
def tD.boolThen{σ:Sg}{Q:VK}{k:Bool->DE->R W}{P:Bool->Hp->Prop}(h:tD K EX (λ δ=>(f δ).bind λa=>(Dn a.d).bind λc=>k c δ) σ H Q)
  (i:∀c H',tD K EX (k c) σ H' Q->P c H'):tD K EX f σ H λx H'=>∃c,x=.bl c/\P c H':=by
 obtain⟨G,δ,g0,s0,o⟩:=h;refine tD.seq g0 s0 o λw v G1 H1 _ st1 r1 o1=> ?_;revert r1 o1;cases w.d with
 |bl c=>intro r1 o1;cases r1;exact⟨c,rfl,i c H1 ⟨G1,δ,st1.gh,s0.mono st1.gg,o1⟩⟩
 |_=>intro _ o1;exact False.elim o1
def tD.now{σ:Sg}{Q:VK}{d:D}(h:tD K EX (λ_=> .ok (.sh d)) σ H Q)(r:∀G,Has K G v d):Q v H:=by
 obtain⟨G,δ,g0,s0,o⟩:=h;exact WP.use o g0 (r G)
def ck_4(ha:ED X EX a f)(hb:ED X EX (.BoolOp .And (b::En) pos) g):ED X EX (.BoolOp .And (a::b::En) pos) (eAnd f g):=
 PE.imp (dy_1 ha hb) λ σ H Q h=>tD.boolThen (k:=λk δ=>if k=true then g δ else .ok (.sh (.bl false))) h λc H' h'=>by
  cases c with
  |true=>rw [if_pos rfl];exact h'
  |false=>rw [if_neg Bool.false_ne_true];exact tD.now h' λ_=> .bl false
def ea_4(ha:ED X EX a f):ED X EX (.UnaryOp .Not a pos) (eNot f):=
 PE.imp (dy_2 ha) λ σ H Q h=>tD.boolThen (k:=λk _=> .ok (.sh (.bl (!k)))) h λc H' h'=>tD.now h' λ_=> .bl (!c)
def eIf(p:FT)(f g:FE):FE:=λ δ=>(p δ).bind λk=>if k=true then f δ else g δ
def cq_5(hc:TD X EX c p)(ha:ED X EX a f)(hb:ED X EX b g):ED X EX (.IfExp c a b pos) (eIf p f g):=
 PE.imp (da_8 hc ha hb) λ σ H Q ⟨G,δ,g0,s0,o⟩=>tDt.seq g0 s0 o λk G' H' _ st o'=>by
  cases k with
  |true=>rw [if_pos rfl];exact⟨G',δ,st.gh,s0.mono st.gg,o'⟩
  |false=>rw [if_neg Bool.false_ne_true];exact⟨G',δ,st.gh,s0.mono st.gg,o'⟩
def Ce:D->R Bool
 | .non=> .ok false
 | .bl b=> .ok b
 | .int i=> .ok (i != 0)
 | .str x=>if x.length<=16777216 then .ok ((x.length:Int) != 0) else .no
 | .lst ds=> .ok (!ds.isEmpty)
 | .tup ds=> .ok (!ds.isEmpty)
 |_=> .no
def Bn(f:FE):FT:=λ δ=>(f δ).bind λw=>Ce w.d
def bz_8{G:Hp}{ds:List D}(r:HasL K G vs ds):(!ds.isEmpty)= !vs.isEmpty:=by cases r <;> rfl
def ea_5{G H:Hp}{d:D}{k:Bool}(g:Same G H)(r:Has K G v d)(e:Ce d=.ok k):TruV K v H k:=by
 cases r with
 |non=>cases e;rfl
 |bl b=>cases e;rfl
 |int i=>cases e;rfl
 |str x=>
  have e:(if x.length<=16777216 then R.ok ((x.length:Int) != 0) else .no)=.ok k:=e
  split at e
  ·rename_i hz;cases e;exact⟨by rw [sizeLine_eq];exact hz,rfl⟩
  ·cases e
 |lst h r=>cases e;exact .inl ⟨_,g.seq h,bz_8 r⟩
 |tup h r=>cases e;exact .inr (.inl ⟨_,Same.tupS g h,bz_8 r⟩)
 |exn0 _ _=>cases e
 |exn1 _ _ _ _ _=>cases e
 |dic _ _ _=>cases e
 |obj _ _ _ _=>cases e
def j_8(ha:ED X EX a f)(he:∀whole,isTrue a X.env whole=(do let v<-whole;standAt a.pos;holding [v] (truthy v)):=by intro _;rfl):TD X EX a (Bn f):=
 PT.imp (db_5 ha he) λ σ H Q ⟨G,δ,g0,s0,o⟩=>by
  refine⟨G,δ,g0,s0, ?_⟩;unfold Bn at o;cases e:f δ with
  |ok w=>
   rw [e] at o;simp only [R.bind_ok] at o;refine WP.intro λv G' H' st r=> ?_;cases e2:Ce w.d with
   |ok k=>rw [e2] at o;exact⟨k,ea_5 st.gh r e2,o G' H' st⟩
   |ex x=>rw [e2] at o;exfalso;revert e2;cases w.d <;> simp only [Ce] <;> intro e2 <;> first|cases e2|(split at e2 <;> cases e2)
   |no=>rw [e2] at o;exact o.elim
  |ex x=>rw [e] at o;exact o
  |no=>rw [e] at o;exact o
variable{e:Expr}{es:List Expr}{fa:FA}
def Ac:FA:=λ_=> .ok []
def Aa(f:FE)(fa:FA):FA:=λ δ=>(f δ).bind λw=>(fa δ).bind λds=> .ok (w.d::ds)
def Al:AD X EX [] Ac:=PA.imp w_4 λ σ H Q ⟨G,δ,g0,s0,o⟩=>o [] G H (Step.refl g0) .nil
def Ae(ha:ED X EX e f)(hr:AD X EX es fa)(hs:starEach (e::es) X.env=(false,eval e X.env)::starEach es X.env:=by rfl):AD X EX (e::es) (Aa f fa):=
 PA.imp (k_0 ha hr hs) λ σ H Q ⟨G,δ,g0,s0,o⟩=>by
  refine⟨G,δ,g0,s0, ?_⟩;unfold Aa at o;cases e1:f δ with
  |ok w=>
   rw [e1] at o;simp only [R.bind_ok] at o;refine WP.intro λv G' H' st r=>⟨G',δ,st.gh,s0.mono st.gg, ?_⟩;cases e2:fa δ with
   |ok ds=>rw [e2] at o;exact λvs G2 H2 st2 r2=>o (v::vs) G2 H2 (st.trans st2) (.cons (r.mono st2.gg) r2)
   |ex x=>rw [e2] at o;exact(EX σ).mono _ _ _ _ _ st o
   |no=>rw [e2] at o;exact o
  |ex x=>rw [e1] at o;exact o
  |no=>rw [e1] at o;exact o
def eTup(fa:FA):FE:=λ δ=>(fa δ).bind λds=>if ds.length<=16777216 then .ok (.sh (.tup ds)) else .no
def Dh(fa:FA):FE:=λ δ=>(fa δ).bind λds=>if ds.length<=16777216 then .ok (.ow (.lst ds)) else .no
def dd_1{x1}(ha:AD X EX es fa):ED X EX (.Tuple es x1 pos) (eTup fa):=
 PE.imp (db_8 ha) λ σ H Q ⟨G,δ,g0,s0,o⟩=>tDa.seq g0 s0 o λds vs G' H' _ st r o'=>by
  split at o'
  ·rename_i hz;refine⟨by rw [r.length,sizeLine_eq];exact hz,λp hp=>o' (.ref p) _ _ (Step.new st.gh hp _) (.tup (SqT.of Cs) (r.mono (o_0 (st.gh.free hp) _)))⟩
  ·exact o'.elim
def Gg(ha:AD X EX es fa):ED X EX (.List es pos) (Dh fa):=
 PE.imp (db_9 ha) λ σ H Q ⟨G,δ,g0,s0,o⟩=>tDa.seq g0 s0 o λds vs G' H' _ st r o'=>by
  split at o'
  ·rename_i hz;refine⟨by rw [r.length,sizeLine_eq];exact hz,λp hp=>z_1 o' st.gh r p hp⟩
  ·exact o'.elim
def rDc(K:Frag)(fn:List D->R W):List V->Hp->VK->Prop:=λvs H Q=>∃(EX:EXT) (G:Hp) (ds:List D),Same G H/\HasL K G vs ds/\Out K EX G H (fn ds) Q
abbrev z_3(X:Cx)(v:Value)(fn:List D->R W):Prop:=Eh X v (rDc X.K fn)
def Aj(fn:List D->R W)(fa:FA):FE:=λ δ=>(fa δ).bind fn
def cq_6{fn:List D->R W}{σ:Sg}{Q:VK}(q:tD K EX (Aj fn fa) σ H Q):tCB (rDc K fn) (tDa K EX fa) σ H Q:=by
 obtain⟨G,δ,g0,s0,o⟩:=q;exact tDa.seq g0 s0 o λds vs G' H' _ st r o'=>⟨_,G',ds,st.gh,r,o'⟩
variable{x:Str}{pp:Pos}{id T:String}{fn:List D->R W}
def Cy(hc:z_3 X (.builtin id) fn)(hg:Gl X x)(hm:X.mg x=none)(hv:bootBuiltins x=some (.builtin id))(ha:AD X EX (e::es) fa)(hn:x≠ "__name__" :=by decide)(hdb:(x ==("__debug__" :Str))=false:=by decide)
  (he:starEach (e::es) X.env=(false,eval e X.env)::starEach es X.env:=by rfl) (hpl:(backTo pos (starEach es X.env)).any (·.1)=false:=by rfl):ED X EX (.Call (.Name x pp) (e::es) [] pos) (Aj fn fa):=
 PE.imp (bd_1 hc hg hm hv ha hn hdb he hpl) λ_ _ _ q=>cq_6 q
def x_5(hc:z_3 X (.type T) fn)(hg:Gl X x)(hm:X.mg x=none)(hv:bootBuiltins x=some (.type T))(ha:AD X EX (e::es) fa)(hn:x≠ "__name__" :=by decide)(hdb:(x ==("__debug__" :Str))=false:=by decide)
  (he:starEach (e::es) X.env=(false,eval e X.env)::starEach es X.env:=by rfl) (hpl:(backTo pos (starEach es X.env)).any (·.1)=false:=by rfl):ED X EX (.Call (.Name x pp) (e::es) [] pos) (Aj fn fa):=
 PE.imp (cv_3 hc hg hm hv ha hn hdb he hpl) λ_ _ _ q=>cq_6 q
def Cf:D->D->R W
 | .lst ds,.int i=>match atI ds i with|some d=> .ok (.sh d)|none=> .no
 | .tup ds,.int i=>match atI ds i with|some d=> .ok (.sh d)|none=> .no
 | .str z,.int i=>if z.length<=16777216 then(match atI z.cps.toList i with|some c=> .ok (.sh (.str ⟨#[c]⟩))|none=> .no) else .no
 |_,_=> .no
theorem HasL.atI{G:Hp}{ds:List D}{i:Int}{d:D}(r:HasL K G vs ds)(h:L2.atI ds i=some d):∃v,L2.atI vs i=some v/\Has K G v d:=by
 unfold L2.atI at h⊢;rw [r.length];cases e:ixN ds.length i with
 |none=>rw [e] at h;cases h
 |some j=>rw [e] at h;exact r.get h
def ix_d:IxR X (rD X.K Cf):=by
 intro value slice zd s σ H x y v u Q I rx ry h hs;obtain⟨EX,G,a,b,g,ra,rb,o⟩:=h;cases rb with
 |int i=>
  cases ra with
  |lst h r=>
   simp only [Cf] at o
   split at o
   ·rename_i d e;obtain⟨v,e1,r1⟩:=HasL.atI r e;exact do_0 value slice zd s σ H _ _ _ _ Q I rx ry ⟨_,_,i,v,rfl,rfl,g.seq h,e1,WP.use o g r1⟩ hs
   ·exact o.elim
  |tup h r=>
   simp only [Cf] at o
   split at o
   ·rename_i d e;obtain⟨v,e1,r1⟩:=HasL.atI r e;exact dz_8 value slice zd s σ H _ _ _ _ Q I rx ry ⟨_,_,i,v,rfl,rfl,Same.tupS g h,e1,WP.use o g r1⟩ hs
   ·exact o.elim
  |str z=>
   simp only [Cf] at o
   split at o
   ·rename_i hz
    split at o
    ·rename_i c e;exact dz_9 value slice zd s σ H _ _ _ _ Q I rx ry ⟨z,i,c,rfl,rfl,by rw [sizeLine_eq];exact hz,e,WP.use o g (.str _)⟩ hs
    ·exact o.elim
   ·exact o.elim
  |_=>exact False.elim o
 |_=>cases ra <;> exact False.elim o
def t_5(ha:ED X EX a f)(hb:ED X EX b g)(hs:cp_8 b:=by intro _ _;rfl):ED X EX (.Subscript a b pos) (Ak Cf f g):=
 PE.imp (eh_5 ix_d ha hb hs) λ_ _ _ q=>two q
end
end L3
namespace L2
open PySem PySem.Spec PyProof.Rows
section
variable{κ:Type} [DecidableEq κ]
def Fd(kvs:List (κ×V))(k:κ):Option V:=(kvs.find? λkv=>decide (kv.1=k)).map (·.2)
def Dk(kvs:List (κ×V))(k:κ)(v:V):List (κ×V):=
 if(kvs.any λkv=>decide (kv.1=k))=true then kvs.map (λkv=>if kv.1=k then(kv.1,v) else kv) else kvs ++ [(k,v)]
def Gs(kvs:List (κ×V))(k:κ):List (κ×V):=kvs.filter λkv=>decide (kv.1≠k)
def ah_5{p:κ×V}{r:List (κ×V)}{k:κ}(e:p.1=k):Fd (p::r) k=some p.2:=by simp [Fd,List.find?_cons,e]
def ah_6{p:κ×V}{r:List (κ×V)}{k:κ}(e:¬p.1=k):Fd (p::r) k=Fd r k:=by simp [Fd,List.find?_cons,e]
theorem bd_4(k:κ):∀kvs:List (κ×V),(kvs.any λkv=>decide (kv.1=k))=(Fd kvs k).isSome
 | []=>rfl
 |p::r=>by
  rw [List.any_cons]
  by_cases e:p.1=k
  ·simp only [ah_5 e,decide_eq_true e,Bool.true_or,Option.isSome_some]
  ·rw [ah_6 e,decide_eq_false e,Bool.false_or];exact bd_4 k r
def ax_1(kvs:List (κ×V))(k:κ)(v:V):(Dk kvs k v).length<=kvs.length + 1:=by
 unfold Dk
 split
 ·rw [List.length_map];omega
 ·rw [List.length_append,List.length_cons,List.length_nil];omega
def RelO.isSome_eq{o:Option V}{u:Option Value}(r:RelO o u):o.isSome=u.isSome:=by
 cases o with
 |none=>cases u with
  |none=>rfl
  |some _=>exact(show False from r).elim
 |some _=>cases u with
  |none=>exact(show False from r).elim
  |some _=>rfl
theorem RelO.getD{o:Option V}{u:Option Value}{d:V}{d':Value}(r:RelO o u)(rd:RelV d d'):RelV (o.getD d) (u.getD d'):=by
 cases o with
 |none=>cases u with
  |none=>exact rd
  |some _=>exact(show False from r).elim
 |some _=>cases u with
  |none=>exact(show False from r).elim
  |some _=>exact r
def KV.val{kvs:List (κ×V)}{vs:List (κ×Value)}(r:KV kvs vs)(k:κ):RelO (Fd kvs k) (valueAt vs k):=by
 unfold KV at r
 induction r with
 |nil=>exact True.intro
 | @cons p q ps qs h t ih=>
  obtain⟨h1,h2⟩:=h
  by_cases e:p.1=k
  ·have e':q.1=k:=h1.symm.trans e;have b:valueAt (q::qs) k=some q.2:=by simp [valueAt,List.find?_cons,e']
   rw [ah_5 e,b];exact h2
  ·have e':¬q.1=k:=λz=>e (h1.trans z);have b:valueAt (q::qs) k=valueAt qs k:=by simp [valueAt,List.find?_cons,e']
   rw [ah_6 e,b];exact ih
theorem KV.any{kvs:List (κ×V)}{vs:List (κ×Value)}(r:KV kvs vs)(k:κ):(kvs.any λkv=>decide (kv.1=k))=vs.any λkv=>decide (kv.1=k):=by
 unfold KV at r
 induction r with
 |nil=>rfl
 |cons h t ih=>rw [List.any_cons,List.any_cons,ih,h.1]
def KV.repl{kvs:List (κ×V)}{vs:List (κ×Value)}(r:KV kvs vs)(k:κ){y:V}{u:Value}(ry:RelV y u):
  KV (kvs.map λkv=>if kv.1=k then(kv.1,y) else kv) (vs.map λkv=>if kv.1=k then(kv.1,u) else kv):=by
 unfold KV at r⊢
 induction r with
 |nil=>exact .nil
 | @cons p q ps qs h t ih=>
  rw [List.map_cons,List.map_cons];refine .cons ?_ ih;obtain⟨h1,h2⟩:=h
  by_cases e:p.1=k
  ·rw [if_pos e,if_pos (h1.symm.trans e)];exact⟨h1,ry⟩
  ·rw [if_neg e,if_neg (λz=>e (h1.trans z))];exact⟨h1,h2⟩
def KV.put{kvs:List (κ×V)}{vs:List (κ×Value)}(r:KV kvs vs)(k:κ){y:V}{u:Value}(ry:RelV y u):KV (Dk kvs k y) (stored vs k u):=by
 unfold Dk stored;rw [r.any k]
 by_cases e:(vs.any λkv=>decide (kv.1=k))=true
 ·rw [if_pos e,if_pos e];exact r.repl k ry
 ·rw [if_neg e,if_neg e];exact Paired.snoc r ⟨rfl,ry⟩
def KV.drop{kvs:List (κ×V)}{vs:List (κ×Value)}(r:KV kvs vs)(k:κ):KV (Gs kvs k) (without vs k):=by
 unfold KV at r⊢;unfold Gs without
 induction r with
 |nil=>exact .nil
 | @cons p q ps qs h t ih=>
  obtain⟨h1,h2⟩:=h;rw [List.filter_cons,List.filter_cons]
  by_cases e:p.1=k
  ·have a:¬decide (p.1≠k)=true:=by simp [e]
   have b:¬decide (q.1≠k)=true:=by simp [h1.symm.trans e]
   rw [if_neg a,if_neg b];exact ih
  ·have e':¬q.1=k:=λz=>e (h1.trans z);have a:decide (p.1≠k)=true:=by simp [e]
   have b:decide (q.1≠k)=true:=by simp [e']
   rw [if_pos a,if_pos b];exact .cons ⟨h1,h2⟩ ih
def KV.keys{kvs:List (κ×V)}{vs:List (κ×Value)}(r:KV kvs vs):kvs.map (·.1)=vs.map (·.1):=by
 unfold KV at r
 induction r with
 |nil=>rfl
 |cons h t ih=>rw [List.map_cons,List.map_cons,ih,h.1]
theorem KV.length{kvs:List (κ×V)}{vs:List (κ×Value)}(r:KV kvs vs):kvs.length=vs.length:=Paired.length r
def dd_2(kvs:List (κ×V))(k:κ):(Gs kvs k).length<=kvs.length:=List.length_filter_le _ _
end
def bd_5{w:World}{k:At}{u:Value}(r:RelV (kV k) u):(i_9 P w).is k u=true:=by
 cases k with
 |inl i=>obtain⟨t,e⟩:=(show∃t,u=Value.int i t from r);subst e;exact by_9 P w i t
 |inr x=>obtain⟨t,e⟩:=(show∃t,u=Value.str x t from r);subst e;exact bz_0 P w x t
theorem bm_5{w:World}:∀{ks:List At} {us:List Value},Vals (ks.map kV) us->ItemsAre (i_9 P w) ks us
 | [],_,r=>by rw [List.map_nil] at r;cases r;exact .nil
 |k::ks,_,r=>by
  rw [List.map_cons] at r;cases r with
  |cons h t=>exact .cons (bd_5 h) (bm_5 t)
abbrev KT(H:Hp):List (List At×V)->List (List At×Addr×Value)->Prop:=Paired λp q=>p.1=q.1/\H q.2.1=some (.tup (p.1.map kV))/\RelV p.2 q.2.2
def KT.val{kvs:List (List At×V)}{xs:List (List At×Addr×Value)}(r:KT H kvs xs)(k:List At):RelO (Fd kvs k) ((atKey xs k).map (·.2)):=by
 induction r with
 |nil=>exact True.intro
 | @cons p q ps qs h t ih=>
  obtain⟨h1,_,h2⟩:=h
  by_cases e:p.1=k
  ·have e':q.1=k:=h1.symm.trans e;have b:atKey (q::qs) k=some q.2:=by simp [atKey,List.find?_cons,e']
   rw [ah_5 e,b];exact h2
  ·have e':¬q.1=k:=λz=>e (h1.trans z);have b:atKey (q::qs) k=atKey qs k:=by simp [atKey,List.find?_cons,e']
   rw [ah_6 e,b];exact ih
def KT.repl{kvs:List (List At×V)}{xs:List (List At×Addr×Value)}(r:KT H kvs xs)(k:List At){y:V}{u:Value}(ry:RelV y u):
  KT H (kvs.map λkv=>if kv.1=k then(kv.1,y) else kv) (xs.map (putAt k u)):=by
 induction r with
 |nil=>exact .nil
 | @cons p q ps qs h t ih=>
  rw [List.map_cons,List.map_cons];refine .cons ?_ ih;obtain⟨h1,h2,h3⟩:=h;unfold putAt
  by_cases e:p.1=k
  ·rw [if_pos e,if_pos (h1.symm.trans e)];exact⟨h1,h2,ry⟩
  ·rw [if_neg e,if_neg (λz=>e (h1.trans z))];exact⟨h1,h2,h3⟩
def KT.put{kvs:List (List At×V)}{xs:List (List At×Addr×Value)}(r:KT H kvs xs)(k:List At){b:Addr}{y:V}{u:Value}(hb:H b=some (.tup (k.map kV)))(ry:RelV y u):
  KT H (Dk kvs k y) (storedH xs k b u):=by
 have e:(kvs.any λkv=>decide (kv.1=k))=(atKey xs k).isSome:=by
  rw [bd_4,(r.val k).isSome_eq,Option.isSome_map]
 unfold Dk storedH;rw [e]
 by_cases q:(atKey xs k).isSome=true
 ·rw [if_pos q,if_pos q];exact r.repl k ry
 ·rw [if_neg q,if_neg q];exact Paired.snoc r ⟨rfl,hb,ry⟩
def KT.keeps{H H':Hp}{kvs:List (List At×V)}{xs:List (List At×Addr×Value)}(r:KT H kvs xs)(ht:∀b ys,H b=some (.tup ys)->H' b=some (.tup ys)):KT H' kvs xs:=
 Paired.mapP r λ_ _ z=>⟨z.1,ht _ _ z.2.1,z.2.2⟩
section
variable{P:Program}{w:World}{H:Hp}{h:Heap}{a:Addr}
def dv_9{u:HO}(ok:HOk P w H h)(e:Rd H a u):ObjOk P w H h a u:=e.ok ok
def aq_5{kvs:List (At×V)}(ok:HOk P w H h)(e:Rd H a (.dK kvs)):kvs.length<=sizeLine/\(a ==sysModules)=false/\∃vs,KV kvs vs/\h.DictOf (i_9 P w) a vs:=
 show ObjOk P w H h a (.dK kvs) from dv_9 ok e
def dd_3{kvs:List (At×V)}(ok:HOk P w H h)(e:H a=some (.dK kvs)):kvs.length<=sizeLine/\(a ==sysModules)=false/\∃vs,KV kvs vs/\h.DictOf (i_9 P w) a vs:=aq_5 ok (.inl e)
def bd_6{ks:List At}(ok:HOk P w H h)(e:H a=some (.tup (ks.map kV))):(tupleKind (i_9 P w)).is h ks a:=by
 obtain⟨_,its,r,o,h1,h2,n,h3⟩:=(show ObjOk P w H h a (.tup (ks.map kV)) from ok a _ e);exact⟨o,its.toArray,n,h1,h2,h3,by simpa using bm_5 r⟩
def bm_6{kvs:List (List At×V)}(ok:HOk P w H h)(e:Rd H a (.dT kvs)):kvs.length<=sizeLine/\(a ==sysModules)=false/\
  ∃xs,KT H kvs xs/\h.DictOfH (tupleKind (i_9 P w)) a xs:=by
 obtain⟨z,y,xs,r,o,es,ep,h1,h2,h3,h4,h5⟩:=(show ObjOk P w H h a (.dT kvs) from dv_9 ok e);refine⟨z,y,xs,r,o,es,ep,h1,h2,h3,h4,λx hx=> ?_,h5⟩;have all:∀{l:List (List At×V)} {m:List (List At×Addr×Value)},KT H l m->∀x∈m,(tupleKind (i_9 P w)).is h x.1 x.2.1:=by
  intro l m q
  induction q with
  |nil=>intro x hx;exact nomatch hx
  | @cons p q ps qs hq t ih=>
   intro x hx;rcases List.mem_cons.mp hx with e|hx
   ·subst e;exact bd_6 ok (by rw [<-hq.1];exact hq.2.1)
   ·exact ih x hx
 exact all r x hx
def eh_8{kvs:List (List At×V)}(ok:HOk P w H h)(e:H a=some (.dT kvs)):kvs.length<=sizeLine/\(a ==sysModules)=false/\
  ∃xs,KT H kvs xs/\h.DictOfH (tupleKind (i_9 P w)) a xs:=bm_6 ok (.inl e)
end
def DGet(H:Hp)(a:Addr)(y:V)(r:Option V):Prop:=
 (∃kvs k,Rd H a (.dK kvs)/\y=kV k/\r=Fd kvs k)\/∃kvs k b,Rd H a (.dT kvs)/\y=.ref b/\H b=some (.tup (k.map kV))/\r=Fd kvs k
def DPut(H:Hp)(a:Addr)(y v:V)(H':Hp):Prop:=
 (∃kvs k,H a=some (.dK kvs)/\y=kV k/\kvs.length < sizeLine/\H'=upd H a (.dK (Dk kvs k v)))\/
 ∃kvs k b,H a=some (.dT kvs)/\y=.ref b/\H b=some (.tup (k.map kV))/\kvs.length < sizeLine/\H'=upd H a (.dT (Dk kvs k v))
def DGet.t{a b:Addr}{kvs:List (List At×V)}{k:List At}(e:H a=some (.dT kvs))(eb:H b=some (.tup (k.map kV))):DGet H a (.ref b) (Fd kvs k):=.inr ⟨kvs,k,b,.inl e,rfl,eb,rfl⟩
theorem DPut.k{a:Addr}{kvs:List (At×V)}{k:At}(e:H a=some (.dK kvs))(hl:kvs.length < sizeLine):DPut H a (kV k) v (upd H a (.dK (Dk kvs k v))):=.inl ⟨kvs,k,e,rfl,hl,rfl⟩
def DPut.t{a b:Addr}{kvs:List (List At×V)}{k:List At}(e:H a=some (.dT kvs))(eb:H b=some (.tup (k.map kV)))(hl:kvs.length < sizeLine):
  DPut H a (.ref b) v (upd H a (.dT (Dk kvs k v))):=.inr ⟨kvs,k,b,e,rfl,eb,hl,rfl⟩
section
variable{X:Cx}{zd:List (Addr×Obj)}{σ:St}{H:Hp}{s:Shared}{a:Addr}{y v:V}{u r:Value}{o:Option V}{A:Around}{E:Value->Shared->Prop}
def Inv.big(I:Inv X zd σ H s):sysModules < s.heap.objs.size:=by
 have h:mainGlobals < s.heap.objs.size:=(I.mod.glob.keeps I.bk).lt;exact Nat.lt_trans (by decide) h
def cw_0{Q:Value->Shared->Prop}(hu:A.units + 1 < cLine)(I:Inv X zd σ H s)(g:DGet H a y (some v))(ry:RelV y u)(h:∀w' s',Inv X zd σ H s'->RelV v w'->Q w' s'):
  wpAny (model X.prog X.w) A (getItem (.ref a) u) Q E s:=by
 rcases g with⟨kvs,k,e,ey,l⟩|⟨kvs,k,b,e,ey,eb,l⟩
 ·subst ey;obtain⟨z,hd,vs,rel,dd⟩:=aq_5 I.hok e;obtain⟨w',hw,rw'⟩:=RelO.some_of (v:=v) (o:=valueAt vs k) (by rw [l];exact rel.val k);exact wpAny_getItem_of (bd_5 ry) dd.mapOf hw (h w' _ (I.tok _) rw')
 ·subst ey;cases(show u=Value.ref b from ry);obtain⟨z,hd,xs,rel,dd⟩:=bm_6 I.hok e;obtain⟨w',hw,rw'⟩:=RelO.some_of (v:=v) (o:=(atKey xs k).map (·.2)) (by rw [l];exact rel.val k);obtain⟨p,hp,hp2⟩:=Option.map_eq_some_iff.mp hw;refine wpAny_getItem_heap (tupleKind_room_in1 hu) (bd_6 I.hok eb) dd hp ?_;rw [hp2];exact h w' _ (I.tok _) rw'
def d_in{Q:Value->Shared->Prop}(hu:A.units + 1 < cLine)(I:Inv X zd σ H s)(g:DGet H a y o)(ry:RelV y u)(h:∀s',Inv X zd σ H s'->Q (.bool o.isSome) s'):
  wpAny (model X.prog X.w) A (compareOp .In u (.ref a)) Q E s:=by
 rcases g with⟨kvs,k,e,ey,l⟩|⟨kvs,k,b,e,ey,eb,l⟩
 ·subst ey;obtain⟨z,hd,vs,rel,dd⟩:=aq_5 I.hok e;refine wpAny_in_of (bd_5 ry) hd dd.mapOf ?_;rw [<-(rel.val k).isSome_eq,<-l];exact h _ (I.tok _)
 ·subst ey;cases(show u=Value.ref b from ry);obtain⟨z,hd,xs,rel,dd⟩:=bm_6 I.hok e;refine wpAny_in_heap (tupleKind_room_in1 hu) (bd_6 I.hok eb) hd dd ?_;have q:=(rel.val k).isSome_eq;rw [Option.isSome_map] at q;rw [<-q,<-l];exact h _ (I.tok _)
def do_5{Q:Value->Shared->Prop}(hu:A.units + 1 < cLine)(I:Inv X zd σ H s)(g:DGet H a y o)(ry:RelV y u)(h:∀s',Inv X zd σ H s'->Q (.bool (!o.isSome)) s'):
  wpAny (model X.prog X.w) A (compareOp .NotIn u (.ref a)) Q E s:=by
 rcases g with⟨kvs,k,e,ey,l⟩|⟨kvs,k,b,e,ey,eb,l⟩
 ·subst ey;obtain⟨z,hd,vs,rel,dd⟩:=aq_5 I.hok e;refine wpAny_notIn_of (bd_5 ry) hd dd.mapOf ?_;rw [<-(rel.val k).isSome_eq,<-l];exact h _ (I.tok _)
 ·subst ey;cases(show u=Value.ref b from ry);obtain⟨z,hd,xs,rel,dd⟩:=bm_6 I.hok e;refine wpAny_notIn_heap (tupleKind_room_in1 hu) (bd_6 I.hok eb) hd dd ?_;have q:=(rel.val k).isSome_eq;rw [Option.isSome_map] at q;rw [<-q,<-l];exact h _ (I.tok _)
def bs_0{h':Heap}{t':Nat}{ob:HO}(I:Inv X zd σ H s)(mu:Mut (H a))(hs:Heap.SameBut a s.heap h')(he:∃q,h'.get? a=some q)(new:ObjOk X.prog X.w (upd H a ob) h' a ob):
  Inv X zd σ (upd H a ob) {s with heap:=h',toks:=t'}:=
 I.write (x:=a) (e:=a) mu (.inl rfl) (λb q hb z=>(hs.2 b hb).trans z) he new
def dd_4{w:World}{H':Hp}{h':Heap}{kvs:List (At×V)}{vs:List (At×Value)}(z:kvs.length<=sizeLine)(hd:(a ==sysModules)=false)(rel:KV kvs vs)(dd:h'.DictOf (i_9 P w) a vs):
  ObjOk P w H' h' a (.dK kvs):=⟨z,hd,vs,rel,dd⟩
def cw_1{H':Hp}{Q:Unit->Shared->Prop}(hu:A.units + 1 < cLine)(I:Inv X zd σ H s)(g:DPut H a y v H')(ry:RelV y u)(rv:RelV v r)(h:∀s',Inv X zd σ H' s'->Q () s'):
  wpAny (model X.prog X.w) A (setItem (.ref a) u r) Q E s:=by
 rcases g with⟨kvs,k,e,ey,l,eH⟩|⟨kvs,k,b,e,ey,eb,l,eH⟩
 ·subst ey eH;obtain⟨z,hd,vs,rel,dd⟩:=dd_3 I.hok e;have hz:vs.length<=sizeLine:=by rw [<-rel.length];exact z
  have hl:(Dk kvs k v).length<=sizeLine:=by have:=ax_1 kvs k v;omega
  refine wpAny_setItem_pairs (hsz:=hz) (bd_5 ry) dd λh' dd' hs=>h _ ?_;have he:∃q,h'.get? a=some q:=let⟨q,_,_,hq,_⟩:=dd';⟨q,hq⟩;exact bs_0 I (by rw [e];exact True.intro) hs he (dd_4 hl hd (rel.put k rv) dd')
 ·subst ey eH;cases(show u=Value.ref b from ry);obtain⟨z,hd,xs,rel,dd⟩:=eh_8 I.hok e;have hz:xs.length<=sizeLine:=by rw [<-Paired.length rel];exact z
  have hl:(Dk kvs k v).length<=sizeLine:=by have:=ax_1 kvs k v;omega
  refine wpAny_setItem_heap (hsz:=hz) (tupleKind_room_in1 hu) (bd_6 I.hok eb) dd λh' dd' hs=>h _ ?_;obtain⟨q,es,ep,hq,h2,h3,h4,_,h5⟩:=dd';refine bs_0 I (by rw [e];exact True.intro) hs ⟨q,hq⟩ ⟨hl,hd,_,(rel.put k eb rv).keeps λc ys ec=> ?_,q,es,ep,hq,h2,h3,h4,h5⟩;rw [Bm (ef_2 ec e (λz=>nomatch z))];exact ec
end
section
variable{X:Cx}{zd:List (Addr×Obj)}{σ:St}{H:Hp}{s:Shared}{a:Addr}{kvs:List (At×V)}{k:At}{u:Value}{A:Around}{E:Value->Shared->Prop}
def eh_9{more:List Value}{Q:Value->Shared->Prop}(I:Inv X zd σ H s)(e:H a=some (.dK kvs))(ry:RelV (kV k) u)(l:Fd kvs k=some v)(hm:more= []\/∃x,more= [x])
  (h:∀w' s',Inv X zd σ (upd H a (.dK (Gs kvs k))) s'->RelV v w'->Q w' s'):wpAny (model X.prog X.w) A (call (.builtin "dict.pop") (.ref a::u::more)) Q E s:=by
 obtain⟨z,hd,vs,rel,dd⟩:=dd_3 I.hok e;obtain⟨w',hw,rw'⟩:=RelO.some_of (v:=v) (o:=valueAt vs k) (by rw [<-l];exact rel.val k);have hp:(keyPart u).isSome=true:=by
  cases k with
  |inl i=>obtain⟨t,q⟩:=(show∃t,u=Value.int i t from ry);subst q;rfl
  |inr x=>obtain⟨t,q⟩:=(show∃t,u=Value.str x t from ry);subst q;rfl
 have ha:argsOk "dict.pop" ⟨.ref a::u::more,[]⟩:=by
  rcases hm with q|⟨x,q⟩
  ·subst q;exact PySem.F.args_dict_pop_2 _ _
  ·subst q;exact PySem.F.args_dict_pop_3 _ _ _
 refine call_meetsIn PySem.F.slot_dict_pop dd.typeIs PySem.F.entry_dict_pop ha (meets_dict_pop_there (i_9 X.prog X.w) a (bd_5 ry) more hm hp)
  ⟨vs,w',dd,by rw [<-rel.length];exact z,hw,λh' dd' hs=>h w' _ ?_ rw'⟩
 have he:∃q,h'.get? a=some q:=let⟨q,_,_,hq,_⟩:=dd';⟨q,hq⟩;exact bs_0 I (by rw [e];exact True.intro) hs he (dd_4 (Nat.le_trans (dd_2 kvs k) z) hd (rel.drop k) dd')
def ea_6{r:Value}{Q:Value->Shared->Prop}(I:Inv X zd σ H s)(e:H a=some (.dK kvs))(ry:RelV (kV k) u)(l:Fd kvs k=none)(h:∀s',Inv X zd σ H s'->Q r s'):
  wpAny (model X.prog X.w) A (call (.builtin "dict.pop") [.ref a,u,r]) Q E s:=by
 obtain⟨z,hd,vs,rel,dd⟩:=dd_3 I.hok e;have hn:valueAt vs k=none:=RelO.none_of (by rw [<-l];exact rel.val k);have hp:(keyPart u).isSome=true:=by
  cases k with
  |inl i=>obtain⟨t,q⟩:=(show∃t,u=Value.int i t from ry);subst q;rfl
  |inr x=>obtain⟨t,q⟩:=(show∃t,u=Value.str x t from ry);subst q;rfl
 exact call_meetsIn PySem.F.slot_dict_pop dd.typeIs PySem.F.entry_dict_pop (PySem.F.args_dict_pop_3 _ _ _) (meets_dict_pop_default (i_9 X.prog X.w) a (bd_5 ry) hd hp r) ⟨vs,dd,hn,h _ (I.tok _)⟩
def ei_0{Q:Value->Shared->Prop}(I:Inv X zd σ H s)(e:Rd H a (.dK kvs))(h:∀t s',Inv X zd σ H s'->Q (.int kvs.length t) s'):wpAny (model X.prog X.w) A (call (.builtin "len") [.ref a]) Q E s:=by
 obtain⟨z,hd,vs,rel,dd⟩:=aq_5 I.hok e;refine call_len_dict hd dd (by rw [<-rel.length];rw [sizeLine_eq] at z;omega) ?_;rw [<-rel.length];exact h _ _ (I.tok _)
end
def NoSl(i:Expr):Prop:=∀ov iv,subscripted i false ov iv=operate [ov,iv] (getItem ov iv)
def do_6{prog:Program}{w:World}{A:Around}{E:Value->Shared->Prop}{s:Shared}{env:Env}{value slice:Expr}{T id:String}{Q:Value->Shared->Prop}
  (hl:typeLookup (.type T) "__getitem__" =pure (some (.builtin id))) (hs:NoSl slice)
  (h:wpAny (model prog w) A (eval value env) (λo s₁=>wpAny (model prog w) A (eval slice env) (λi s₂=>s₂.TypeIs o T/\wpAny (model prog w) A (getItem o i) Q E s₂) E s₁) E s):
  wpAny (model prog w) A (eval (.Subscript value slice pos) env) Q E s:=by
 refine Subscript_ (wpAny_mono h (λo s₁ h₁=>wpAny_mono h₁ (λi s₂ h₂=> ?_) λ_ _ x=>x) λ_ _ x=>x);obtain⟨hT,h₂⟩:=h₂;unfold subscriptTail;refine wpAny_bind ?_;rw [getitemInPython_of_ne hT.not_modules];refine wpAny_bind (wpAny_specialOf hT hl ?_);have fin:wpAny (model prog w) A (subscripted slice false o i) (λr s₃=>wpAny (model prog w) A (letTemporaryGo value o r >>=λ_=>pure r) Q E s₃) E s₂:=by
  rw [hs o i];exact wpAny_operating (wpAny_mono h₂ (λr s₃ h₃=>wpAny_bind (wpAny_letTemporaryGo (wpAny_pure h₃))) λ_ _ x=>x)
 first
  |exact wpAny_pure (wpAny_bind fin)
  |exact wpAny_bind (wpAny_pure (wpAny_bind fin))
  |exact wpAny_bind fin
def bz_9{zd:List (Addr×Obj)}{σ:St}{s:Shared}{a:Addr}{y:V}{o:Option V}(I:Inv X zd σ H s)(g:DGet H a y o):s.TypeIs (.ref a) "dict" :=by
 rcases g with⟨kvs,k,e,_,_⟩|⟨kvs,k,b,e,_,_,_⟩
 ·obtain⟨_,_,vs,_,dd⟩:=aq_5 I.hok e;exact dd.typeIs
 ·obtain⟨_,_,xs,_,dd⟩:=bm_6 I.hok e;exact dd.typeIs
def ei_1(td ty:TE):TE:=λ σ H Q=>td σ H λx H1=>ty σ H1 λy H2=>∃a v,x=.ref a/\DGet H2 a y (some v)/\Q v H2
def ei_2(td ty tv:TE):TS:=λD σ H=>tv σ H λv H1=>td σ H1 λx H2=>ty σ H2 λy H3=>∃a H4,x=.ref a/\DPut H3 a y v H4/\D.nx σ H4
section
variable{X:Cx}{o i e value:Expr}{pos pos' zj:Pos}{td ty tv:TE}
def bs_1(hu:X.A.units + 1 < cLine)(ho:PE X o td)(hi:PE X i ty)(hs:NoSl i):PE X (.Subscript o i pos) (ei_1 td ty):=by
 intro zd s σ H Q I h;refine do_6 PySem.F.slot_dict_getitem.lookup hs (Bi (ho zd s σ H _ I h) λu s1 ⟨x,H1,I1,rx,q1⟩=>Bi (hi zd s1 σ H1 _ I1 q1) λiv s2 ⟨y,H2,I2,ry,a,v,ex,g,q2⟩=> ?_);subst ex;obtain rfl:u=Value.ref a:=rx;exact⟨bz_9 I2 g,cw_0 hu I2 g ry λw' s3 I3 rw'=>⟨v,H2,I3,rw',q2⟩⟩
def bs_2(hu:X.A.units + 1 < cLine)(ho:PE X o td)(hi:PE X i ty)(hv:PE X value tv)(hs:swapsWith value (some (.Subscript o i pos')) pos.line X.env=pure false):
  PS X (.Assign [.Subscript o i pos'] value pos) (ei_2 td ty tv):=by
 intro zd s σ H D I h;refine wpAny_Assign_Subscript (Bi (hv zd s σ H _ I h) λr s1 ⟨v,H1,I1,rv,q1⟩=>Bi (ho zd s1 σ H1 _ I1 q1) λu s2 ⟨x,H2,I2,rx,q2⟩=>Bi (hi zd s2 σ H2 _ I2 q2) λiv s3 ⟨y,H3,I3,ry,a,H4,ex,g,q3⟩=> ?_) hs;subst ex;obtain rfl:u=Value.ref a:=rx;exact cw_1 hu I3 g ry rv λs4 I4=>⟨σ,H4,I4,q3⟩
end
def dd_6{w:World}(h:Heap)(hb:sysModules < h.objs.size):ObjOk P w H (h.push {cls:=.type "dict",data:=.dict #[]}) h.objs.size (.dK []):=
 ⟨Nat.zero_le _,beq_eq_false_iff_ne.mpr (Ne.symm (Nat.ne_of_lt hb)),[],.nil,Heap.DictOf.new h⟩
def ea_7:TE:=λ_ H Q=>∀p,H p=none->Q (.ref p) (upd H p (.dK []))
section
variable{X:Cx}{pos:Pos}
def ca_0:PE X (.Dict [] [] pos) ea_7:=λzd s σ H Q I h=>
 wpAny_Dict_empty ⟨.ref s.heap.objs.size,_,I.laid (a:=s.heap.objs.size) (o:=.dK []) (t':=s.toks) (λ_ _ q=>Heap.get?_push_of_some _ q) (Nat.le_refl _) (dd_6 s.heap I.big),rfl,h _ (I.hok.fresh (Nat.le_refl _))⟩
end
structure M1(X:Cx)(o:Expr)(m:Str)(zh:Pos)(e:Expr)(zf:Pos):Prop where
 base:attributeBase o m X.env (eval o X.env)=eval o X.env
 few:((backTo zf (starEach [e] X.env)).all (λx=> !x.1) && (backToKw zf (keywordEach [] X.env)).all (λx=>x.1.isSome)
  && decide (([e]:List Expr).length + ([]:List Keyword).length + (if([]:List Keyword).isEmpty then 0 else 1) < 30))=true
 line:(zh.endLine ==zf.line)=true
 trees:backTo zf (starEach [e] X.env)= [(false,eval e X.env)]
structure M2(X:Cx)(o:Expr)(m:Str)(zh:Pos)(e f:Expr)(zf:Pos):Prop where
 base:attributeBase o m X.env (eval o X.env)=eval o X.env
 few:((backTo zf (starEach [e,f] X.env)).all (λx=> !x.1) && (backToKw zf (keywordEach [] X.env)).all (λx=>x.1.isSome)
  && decide (([e,f]:List Expr).length + ([]:List Keyword).length + (if([]:List Keyword).isEmpty then 0 else 1) < 30))=true
 line:(zh.endLine ==zf.line)=true
 trees:backTo zf (starEach [e,f] X.env)= [(false,eval e X.env),(false,eval f X.env)]
def IsD(H:Hp)(a:Addr):Prop:=(∃kvs,Rd H a (.dK kvs))\/∃kvs,Rd H a (.dT kvs)
def ea_8{zd:List (Addr×Obj)}{σ:St}{s:Shared}{a:Addr}(I:Inv X zd σ H s)(d:IsD H a):
  s.TypeIs (.ref a) "dict" /\(∀b,Value.ref a=.ref b->∃ob,s.heap.get? b=some ob/\ob.dict=none)/\(a ==sysModules)=false:=by
 rcases d with⟨kvs,e⟩|⟨kvs,e⟩
 ·obtain⟨_,hd,vs,_,dd⟩:=aq_5 I.hok e;refine⟨dd.typeIs,λb q=> ?_,hd⟩;cases q;obtain⟨ob,_,_,h1,h2,_⟩:=dd;exact⟨ob,h1,h2.2.1⟩
 ·obtain⟨_,hd,xs,_,dd⟩:=bm_6 I.hok e;refine⟨dd.typeIs,λb q=> ?_,hd⟩;cases q;obtain⟨ob,_,_,h1,h2,_⟩:=dd;exact⟨ob,h1,h2.2.1⟩
section
variable{X:Cx}{zd:List (Addr×Obj)}{σ:St}{H:Hp}{s:Shared}{a:Addr}{y d:V}{u r:Value}{o:Option V}{A:Around}{E:Value->Shared->Prop}
end
def ea_9(td ty tx:TE):TE:=λ σ H Q=>td σ H λx H1=>∃a,x=.ref a/\IsD H1 a/\ty σ H1 λy H2=>tx σ H2 λz H3=>∃kvs k,H3 a=some (.dK kvs)/\y=kV k/\
 (∀v,Fd kvs k=some v->Q v (upd H3 a (.dK (Gs kvs k))))/\(Fd kvs k=none->Q z H3)
section
variable{X:Cx}{o e f:Expr}{zh zf:Pos}{td ty tx:TE}
def dd_7(ho:PE X o td)(he:PE X e ty)(hf:PE X f tx)(m:M2 X o "pop" zh e f zf):PE X (.Call (.Attribute o "pop" zh) [e,f] [] zf) (ea_9 td ty tx):=by
 intro zd s σ H Q I h;refine wpAny_Call_method m.base m.few m.line PySem.F.plainAttrs_dict PySem.F.slot_dict_pop PySem.F.type_dict_pop (Bi (ho zd s σ H _ I h) λu s1 ⟨x,H1,I1,rx,a,ex,d,q1⟩=> ?_);subst ex;obtain rfl:u=Value.ref a:=rx;obtain⟨t1,t2,_⟩:=ea_8 I1 d;refine⟨t1,t2, ?_⟩;rw [m.trees];refine Calls.callWith_builtin rfl (Calls.evalArgs_plain (Calls.spliced_cons (Bi (he zd s1 σ H1 _ I1 q1) λiv s2 ⟨y,H2,I2,ry,q2⟩=>
  Calls.spliced_cons (Bi (hf zd s2 σ H2 _ I2 q2) λfv s3 ⟨z,H3,I3,rz,kvs,k,ea,ey,q3,q4⟩=>Calls.spliced_nil ?_))))
 subst ey;cases l:Fd kvs k with
 |some v=>exact eh_9 I3 ea ry l (.inr ⟨fv,rfl⟩) λw' s4 I4 rw'=>⟨v,_,I4,rw',q3 v l⟩
 |none=>exact ea_6 I3 ea ry l λs4 I4=>⟨z,H3,I4,rz,q4 l⟩
end
section
variable{X:Cx}{zd:List (Addr×Obj)}{σ:St}{H:Hp}{s:Shared}{a:Addr}{kvs:List (At×V)}{A:Around}{E:Value->Shared->Prop}
end
section
variable{X:Cx}{zd:List (Addr×Obj)}{σ:St}{H:Hp}{s:Shared}{a:Addr}{y:V}{u:Value}{A:Around}{E:Value->Shared->Prop}
end
section
variable{X:Cx}
end
section
variable{κ:Type} [DecidableEq κ]
def dd_8{kvs:List (κ×V)}{k:κ}(h:Fd kvs k=none):¬k∈kvs.map (·.1):=by
 intro m;obtain⟨p,hp,e⟩:=List.mem_map.mp m;have q:(kvs.any λkv=>decide (kv.1=k))=true:=List.any_eq_true.mpr ⟨p,hp,decide_eq_true e⟩;rw [bd_4,h] at q;exact absurd q (by simp)
def cw_2{p:κ×V}{r:List (κ×V)}{k:κ}(e:p.1=k):Gs (p::r) k=Gs r k:=by
 unfold Gs;rw [List.filter_cons,if_neg (by simp [e])]
def bm_7{p:κ×V}{r:List (κ×V)}{k:κ}(e:¬p.1=k):Gs (p::r) k=p::Gs r k:=by
 unfold Gs;rw [List.filter_cons,if_pos (by simp [e])]
theorem ca_1:∀{kvs:List (κ×V)} {k:κ},¬k∈kvs.map (·.1)->Gs kvs k=kvs
 | [],_,_=>rfl
 |p::r,k,h=>by
  have h':¬k∈r.map (·.1):=λm=>by
   obtain⟨q,hq,e⟩:=List.mem_map.mp m;exact h (List.mem_map.mpr ⟨q,List.mem_cons.mpr (Or.inr hq),e⟩)
  rw [bm_7 λe=>h (List.mem_map.mpr ⟨p,List.mem_cons.mpr (Or.inl rfl),e⟩),ca_1 h']
end
end L2
namespace L3
open PySem PySem.Spec PyProof.Rows L2
variable{K:Frag}{fd:FuncData}{mg:Str->Option Value}{P:Program}{vs:List V}{us:List Value}{base:Heap}{H:Hp}{X:Cx}{pos:Pos}{v:V}
section
variable{X:Cx}
def Dc{EX:EXT}{G H:Hp}{Q:VK}{d:D}(o:Out K EX G H (.ok (.sh d)) Q)(g:Same G H)(r:Has K G v d):Q v H:=WP.use o g r
def ei_3(K:Frag):R2:=λx y H Q=>∃l b xs zs,x=.ref l/\y=.ref b/\SqL K H l xs/\SqL K H b zs/\xs.length + zs.length<=sizeLine/\∀p,H p=none->Q (.ref p) (upd H p (.lst (xs ++ zs)))
def do_7:Ea X (binaryOp .Add) (ei_3 X.K):=by
 intro zd s σ H x y v u Q I rx ry h;obtain⟨l,b,xs,zs,rfl,rfl,hH,hB,hz,q⟩:=h;cases rx;cases ry;obtain⟨its,r,⟨o,n,e,c,dd,dat⟩,z⟩:=I.list hH;obtain⟨its2,r2,⟨o2,n2,e2,c2,dd2,dat2⟩,z2⟩:=I.list hB;have hl:=r.length;have hl2:=r2.length;obtain⟨cls,dd',data,sl⟩:=o;obtain⟨gn,gp,data2,sl2⟩:=o2;simp only at c dd dat c2 dd2 dat2;subst c dd dat c2 dd2 dat2;refine concat_meets ⟨_,e,rfl⟩ ⟨_,e2,rfl⟩ noFill_list_add seq_list_add PySem.F.slot_list_add PySem.F.entry_list_add (PySem.F.args_list_add_2 _ _) (list_addW l b its.toArray its2.toArray n n2 none none sl sl2 (by rw [List.size_toArray,List.size_toArray];omega)) ⟨e,e2, ?_⟩;have ea:its.toArray ++ its2.toArray=(its ++ its2).toArray:=by simp
 rw [ea];exact⟨.ref _,_,I.lnew (t':=s.toks) (r.append r2) (by rw [List.length_append];omega),rfl,q _ I.fresh⟩
def Bu:D->D->R W
 | .int i,.int j=> .ok (.sh (.int (i + j)))
 | .str x,.str y=>if x.length + y.length<=16777216 then .ok (.sh (.str (x ++ y))) else .no
 | .lst a,.lst b=>if a.length + b.length<=16777216 then .ok (.ow (.lst (a ++ b))) else .no
 |_,_=> .no
def Cz:Fa X (binaryOp .Add) Bu:=by
 intro zd s σ H x y v u Q I rx ry h;obtain⟨EX,G,a,b,g,ra,rb,o⟩:=h;cases ra with
 |int i=>
  cases rb with
  |int j=>exact dz_0 zd s σ H _ _ _ _ Q I rx ry ⟨i,j,rfl,rfl,Dc o g (.int _)⟩
  |_=>exact False.elim o
 |str x=>
  cases rb with
  |str y=>
   simp only [Bu] at o
   split at o
   ·rename_i hz;exact cj_3 zd s σ H _ _ _ _ Q I rx ry ⟨x,y,rfl,rfl,by rw [sizeLine_eq];exact hz,Dc o g (.str _)⟩
   ·exact o.elim
  |_=>exact False.elim o
 |lst h1 r1=>
  cases rb with
  |lst h2 r2=>
   simp only [Bu] at o
   split at o
   ·rename_i hz;exact do_7 zd s σ H _ _ _ _ Q I rx ry ⟨_,_,_,_,rfl,rfl,g.seq h1,g.seq h2,by rw [r1.length,r2.length,sizeLine_eq];exact hz,z_1 o g (r1.append r2)⟩
   ·exact o.elim
  |_=>exact False.elim o
 |_=>cases rb <;> exact False.elim o
def intD(C:Int->Int->Bool)(f:Int->Int->Int):D->D->R W
 | .int i,.int j=>if C i j=true then .ok (.sh (.int (f i j))) else .no
 |_,_=> .no
def aq_6{fn:Value->Value->Sem Value}{C:Int->Int->Bool}{P:Int->Int->Prop}{f:Int->Int->Int}(h:Ea X fn (rI P λi j=> .int (f i j)))(hC:∀i j,C i j=true->P i j):Fa X fn (intD C f):=by
 intro zd s σ H x y v u Q I rx ry q;obtain⟨EX,G,a,b,g,ra,rb,o⟩:=q;cases ra with
 |int i=>
  cases rb with
  |int j=>
   simp only [intD] at o
   split at o
   ·rename_i hc;exact h zd s σ H _ _ _ _ Q I rx ry ⟨i,j,rfl,rfl,hC i j hc,Dc o g (.int _)⟩
   ·exact o.elim
  |_=>exact False.elim o
 |_=>cases rb <;> exact False.elim o
def subD:D->D->R W:=intD (λ_ _=>true) (λi j=>i - j)
def Ei(i j:Int):Bool:=decide (i.natAbs < 18446744073709551616\/j.natAbs < 18446744073709551616)
def Dg:D->D->R W:=intD Ei (λi j=>i * j)
def divC(_ j:Int):Bool:=decide (0 < j/\j.natAbs < 1361129467683753853853498429727072845824)
def Dq:D->D->R W:=intD divC (λi j=>i / j)
def modC(_ j:Int):Bool:=decide (0 < j)
def Dv:D->D->R W:=intD modC (λi j=>i % j)
def powC(i j:Int):Bool:=decide (0<=j/\j.natAbs<=1000000/\i.natAbs < 18446744073709551616)
def powD:D->D->R W:=intD powC (λi j=>i ^ j.toNat)
def aq_7:Fa X (binaryOp .Sub) subD:=aq_6 (P:=λ_ _=>True) (opI λ_ _ _ _ _ _ _ _ q=>sub_int q) λ_ _ _=>trivial
def Eu:Fa X (binaryOp .Mult) Dg:=aq_6 dz_1 λi j h=>by
 have h:=of_decide_eq_true h;rcases h with h|h
 ·exact .inl ⟨by omega,by omega⟩
 ·exact .inr ⟨by omega,by omega⟩
def t_6:Fa X (binaryOp .FloorDiv) Dq:=aq_6 (P:=λ_ j=>0 < j/\j.natAbs < 1361129467683753853853498429727072845824) (opI λi j _ _ _ _ _ hc q=>by
 have h1:(0:Int) < j:=hc.1;have h2:=hc.2;refine floordiv_int (by omega) ?_ (.inl (PyProof.noPylong_of_log2 ?_))
 ·rw [Int.fdiv_eq_ediv_of_nonneg i (by omega)];exact q
 ·have:j.natAbs < 2 ^ 130:=by
   have e:(2:Nat) ^ 130=1361129467683753853853498429727072845824:=by decide
   omega
  have l:j.natAbs.log2 < 130:=(Nat.log2_lt (by omega)).mpr this;omega) λi j h=>of_decide_eq_true h
def Ez:Fa X (binaryOp .Mod) Dv:=aq_6 dz_2 λi j h=>of_decide_eq_true h
def dp_0{i j:Int}(h:powC i j=true):CPow i j:=by
 obtain⟨h1,h2,h3⟩:=of_decide_eq_true h;refine⟨h1,by omega, ?_⟩;have e:(2:Nat) ^ 64=18446744073709551616:=by decide
 omega
def dp_1:Fa X (binaryOp .Pow) powD:=aq_6 dz_3 λi j h=>dp_0 h
def cmpD(f:Int->Int->Bool):D->D->R W
 | .int i,.int j=> .ok (.sh (.bl (f i j)))
 |_,_=> .no
def ba_8{fn:Value->Value->Sem Value}{f:Int->Int->Bool}(h:Ea X fn (rI0 λi j=> .bl (f i j))):Fa X fn (cmpD f):=by
 intro zd s σ H x y v u Q I rx ry q;obtain⟨EX,G,a,b,g,ra,rb,o⟩:=q;cases ra with
 |int i=>
  cases rb with
  |int j=>exact h zd s σ H _ _ _ _ Q I rx ry ⟨i,j,rfl,rfl,Dc o g (.bl _)⟩
  |_=>exact False.elim o
 |_=>cases rb <;> exact False.elim o
def ltD:D->D->R W:=cmpD λi j=>decide (i < j)
def leD:D->D->R W:=cmpD λi j=>decide (i<=j)
def gtD:D->D->R W:=cmpD λi j=>decide (j < i)
def geD:D->D->R W:=cmpD λi j=>decide (j<=i)
def ao_5:Fa X (compareOp .Lt) ltD:=ba_8 eg_7
def bs_4:Fa X (compareOp .LtE) leD:=ba_8 eg_8
def bs_5:Fa X (compareOp .Gt) gtD:=ba_8 eg_9
def eb_0:Fa X (compareOp .GtE) geD:=ba_8 eh_0
mutual
def Eb:D->PyData
 | .non=> .none
 | .bl b=> .bool b
 | .int i=> .int i
 | .str x=> .str x
 | .lst ds=> .list (Fk ds)
 | .tup ds=> .tuple (Fk ds)
 | .dic _=> .dict []
 | .exn _ _ _=> .dict []
 | .obj _ _ _=> .dict []
def Fk:List D->List PyData
 | []=> []
 |d::ds=>Eb d::Fk ds
end
mutual
theorem Has.reads(hK:X.K=K){zd:List (Addr×Obj)}{σ:Sg}{s:Shared}(I:Inv X zd σ H s){G:Hp}(g:Same G H):∀{v:V} {d:D} {u:Value},(Eb d).canLay0=true->Has K G v d->RelV v u->∃as,Reads s.heap u (Eb d) as
 |_,_,_,_,.non,r=>by cases r;exact⟨_,.none⟩
 |_,_,_,_,.bl b,r=>by cases r;exact⟨_,.bool b⟩
 |_,_,_,_,.int i,r=>by obtain⟨t,rfl⟩:=r;exact⟨_,.int i t⟩
 |_,_,_,_,.str x,r=>by obtain⟨t,rfl⟩:=r;exact⟨_,.str x t⟩
 |_,_,_,c,.lst h r,q=>by
  cases q;obtain⟨its,rv,⟨o,n,e,c',_,dat⟩,_⟩:=I.list (by rw [hK];exact g.seq h);obtain⟨as,z⟩:=HasL.reads hK I g c r rv;exact⟨_,.list e c' dat z⟩
 |_,_,_,c,.tup h r,q=>by
  cases q;obtain⟨its,rv,⟨o,e,c',n,dat⟩,_⟩:=I.tuple (by rw [hK];exact Same.tupS g h);obtain⟨as,z⟩:=HasL.reads hK I g c r rv;exact⟨_,.tuple e c' dat z⟩
 |_,_,_,c,.exn0 _ _,_=>absurd c Bool.false_ne_true
 |_,_,_,c,.exn1 _ _ _ _ _,_=>absurd c Bool.false_ne_true
 |_,_,_,c,.dic _ _ _,_=>absurd c Bool.false_ne_true
 |_,_,_,c,.obj _ _ _ _,_=>absurd c Bool.false_ne_true
theorem HasL.reads(hK:X.K=K){zd:List (Addr×Obj)}{σ:Sg}{s:Shared}(I:Inv X zd σ H s){G:Hp}(g:Same G H):∀{vs:List V} {ds:List D} {us:List Value},PyData.canLayAll0 (Fk ds)=true->HasL K G vs ds->Vals vs us->∃as,ReadsAll s.heap us (Fk ds) as
 |_,_,_,_,.nil,r=>by cases r;exact⟨_,.nil⟩
 |_,_,_,c,.cons h t,r=>by
  cases r with
  |cons r1 r2=>
   have c':(PyData.canLay0 (Eb _) && PyData.canLayAll0 (Fk _))=true:=c;rw [Bool.and_eq_true] at c';obtain⟨a1,z1⟩:=Has.reads hK I g c'.1 h r1;obtain⟨a2,z2⟩:=HasL.reads hK I g c'.2 t r2;exact⟨_,.cons z1 z2⟩
end
def eqC(a b:D):Bool:=(Eb a).canLay0 && (Eb b).canLay0 && decide ((Eb a).depth<=60)
def eqvD(a b:D):Bool:=(Eb a).eqv (Eb b)
def Cv(a b:D):R W:=match a,b with
 | .str x,.str y=> .ok (.sh (.bl (decide (x=y))))
 |a,b=>if eqC a b=true then .ok (.sh (.bl (eqvD a b))) else .no
def Fb(a b:D):R W:=match a,b with
 | .str x,.str y=> .ok (.sh (.bl (!decide (x=y))))
 |a,b=>if eqC a b=true then .ok (.sh (.bl (!eqvD a b))) else .no
def ca_3(x y:Str):decide (V.str x=V.str y)=decide (x=y):=by
 by_cases e:x=y
 ·subst e;simp
 ·rw [decide_eq_false e,decide_eq_false (λz=>e (by injection z))]
def Ga(hu:X.A.units + 64 < cLine):Fa X (compareOp .Eq) Cv:=by
 intro zd s σ H x y v u Q I rx ry q;obtain⟨EX,G,a,b,g,ra,rb,o⟩:=q;unfold Cv at o
 split at o
 ·rename_i x y;cases ra;cases rb;exact eg_5 zd s σ H _ _ _ _ Q I rx ry ⟨rfl,by rw [ca_3];exact Dc o g (.bl _)⟩
 ·split at o
  ·rename_i hc;unfold eqC at hc;rw [Bool.and_eq_true,Bool.and_eq_true] at hc;obtain⟨⟨h1,h2⟩,h3⟩:=hc;have h3:=of_decide_eq_true h3;obtain⟨as,za⟩:=Has.reads rfl I g h1 ra rx;obtain⟨bs,zb⟩:=Has.reads rfl I g h2 rb ry;refine PySem.SeqAt.compareEq_reads za zb h1 h2 ?_ ⟨.bl _,H,I,rfl,Dc o g (.bl _)⟩;have:=Nat.min_le_left (Eb a).depth (Eb b).depth;omega
  ·exact o.elim
def ah_7(hu:X.A.units + 64 < cLine):Fa X (compareOp .NotEq) Fb:=by
 intro zd s σ H x y v u Q I rx ry q;obtain⟨EX,G,a,b,g,ra,rb,o⟩:=q;unfold Fb at o
 split at o
 ·rename_i x y;cases ra;cases rb;exact eg_6 zd s σ H _ _ _ _ Q I rx ry ⟨rfl,by rw [ca_3];exact Dc o g (.bl _)⟩
 ·split at o
  ·rename_i hc;unfold eqC at hc;rw [Bool.and_eq_true,Bool.and_eq_true] at hc;obtain⟨⟨h1,h2⟩,h3⟩:=hc;have h3:=of_decide_eq_true h3;obtain⟨as,za⟩:=Has.reads rfl I g h1 ra rx;obtain⟨bs,zb⟩:=Has.reads rfl I g h2 rb ry;refine PySem.SeqAt.compareNe_reads za zb h1 h2 ?_ ⟨.bl _,H,I,rfl,Dc o g (.bl _)⟩;have:=Nat.min_le_left (Eb a).depth (Eb b).depth;omega
  ·exact o.elim
def Bc:D->Bool
 | .non=>true
 | .bl _=>true
 | .int _=>true
 | .str _=>true
 |_=>false
def flV:D->V
 | .bl b=> .bl b
 | .int i=> .int i
 | .str x=> .str x
 |_=> .non
def Has.fl{G:Hp}{d:D}(r:Has K G v d)(f:Bc d=true):v=flV d/\Gh v=true:=by
 cases r with
 |non=>exact⟨rfl,rfl⟩
 |bl b=>exact⟨rfl,rfl⟩
 |int i=>exact⟨rfl,rfl⟩
 |str x=>exact⟨rfl,rfl⟩
 |lst _ _=>cases f
 |tup _ _=>cases f
 |exn0 _ _=>cases f
 |exn1 _ _ _ _ _=>cases f
 |dic _ _ _=>cases f
 |obj _ _ _ _=>cases f
def Has.ofFl{G G':Hp}{d:D}(r:Has K G v d)(f:Bc d=true):Has K G' v d:=by
 cases r with
 |non=>exact .non
 |bl b=>exact .bl b
 |int i=>exact .int i
 |str x=>exact .str x
 |lst _ _=>cases f
 |tup _ _=>cases f
 |exn0 _ _=>cases f
 |exn1 _ _ _ _ _=>cases f
 |dic _ _ _=>cases f
 |obj _ _ _ _=>cases f
theorem HasL.fl{G:Hp}:∀{vs:List V} {ds:List D},HasL K G vs ds->ds.all Bc=true->vs=ds.map flV/\vs.all Gh=true
 |_,_,.nil,_=>⟨rfl,rfl⟩
 |_,_,.cons h r,f=>by
  rw [List.all_cons,Bool.and_eq_true] at f;obtain⟨e1,e2⟩:=h.fl f.1;obtain⟨e3,e4⟩:=HasL.fl r f.2;exact⟨by rw [List.map_cons,<-e1,<-e3],by rw [List.all_cons,e2,e4];rfl⟩
def eqF(a b:D):Bool:=eqV (flV a) (flV b)
def Cm(d:D)(ds:List D):Bool:=ds.any λy=>eqF y d
def cq_7(d:D)(ds:List D):inV (flV d) (ds.map flV)=Cm d ds:=by
 unfold inV Cm;rw [List.any_map];rfl
def inD(neg:Bool):D->D->R W
 | .str i,.str j=> .ok (.sh (.bl (if neg then !(!(Builtin.Str.occurrences j i 0 j.length 1).isEmpty) else !(Builtin.Str.occurrences j i 0 j.length 1).isEmpty)))
 |d,.lst ds=>if(Bc d && ds.all Bc)=true then .ok (.sh (.bl (if neg then !Cm d ds else Cm d ds))) else .no
 |d,.tup ds=>if(Bc d && ds.all Bc)=true then .ok (.sh (.bl (if neg then !Cm d ds else Cm d ds))) else .no
 |_,_=> .no
def cq_8{EX:EXT}{G H:Hp}{x y:V}{d:D}{e:D}{Q:VK}{neg:Bool}(g:Same G H)(ra:Has X.K G x d)(rb:Has X.K G y e)(hd:∀i j,d=.str i->e=.str j->False)(o:Out X.K EX G H (inD neg d e) Q):rIn X.K neg x y H Q:=by
 cases rb with
 |lst h r=>
  rename_i ds;have o':Out X.K EX G H (if(Bc d && ds.all Bc)=true then .ok (.sh (.bl (if neg then !Cm d ds else Cm d ds))) else .no) Q:=by
   cases d <;> exact o
  split at o'
  ·rename_i f;rw [Bool.and_eq_true] at f;obtain⟨e1,e2⟩:=ra.fl f.1;obtain⟨e3,e4⟩:=r.fl f.2;refine⟨_,_,rfl,.inl (g.seq h),e2,e4, ?_⟩;rw [e1,e3,cq_7];exact Dc o' g (.bl _)
  ·exact o'.elim
 |tup h r=>
  rename_i ds;have o':Out X.K EX G H (if(Bc d && ds.all Bc)=true then .ok (.sh (.bl (if neg then !Cm d ds else Cm d ds))) else .no) Q:=by
   cases d <;> exact o
  split at o'
  ·rename_i f;rw [Bool.and_eq_true] at f;obtain⟨e1,e2⟩:=ra.fl f.1;obtain⟨e3,e4⟩:=r.fl f.2;refine⟨_,_,rfl,.inr (Same.tupS g h),e2,e4, ?_⟩;rw [e1,e3,cq_7];exact Dc o' g (.bl _)
  ·exact o'.elim
 |str j=>
  cases d with
  |str i=>exact(hd i j rfl rfl).elim
  |_=>exact False.elim o
 |_=>cases d <;> exact False.elim o
def de_0:Fa X (compareOp .In) (inD false):=by
 intro zd s σ H x y v u Q I rx ry q;obtain⟨EX,G,a,b,g,ra,rb,o⟩:=q
 by_cases hs:∃i j,a=.str i/\b=.str j
 ·obtain⟨i,j,rfl,rfl⟩:=hs;cases ra;cases rb;exact cu_7 zd s σ H _ _ _ _ Q I rx ry ⟨i,j,rfl,rfl,Dc o g (.bl _)⟩
 ·exact cv_5 zd s σ H _ _ _ _ Q I rx ry (cq_8 g ra rb (λi j e1 e2=>hs ⟨i,j,e1,e2⟩) o)
def au_1:Fa X (compareOp .NotIn) (inD true):=by
 intro zd s σ H x y v u Q I rx ry q;obtain⟨EX,G,a,b,g,ra,rb,o⟩:=q
 by_cases hs:∃i j,a=.str i/\b=.str j
 ·obtain⟨i,j,rfl,rfl⟩:=hs;cases ra;cases rb;exact br_6 zd s σ H _ _ _ _ Q I rx ry ⟨i,j,rfl,rfl,Dc o g (.bl _)⟩
 ·exact br_5 zd s σ H _ _ _ _ Q I rx ry (cq_8 g ra rb (λi j e1 e2=>hs ⟨i,j,e1,e2⟩) o)
def By:List D->R W
 | [.str x]=>if x.length<=16777216 then .ok (.sh (.int x.length)) else .no
 | [.lst ds]=> .ok (.sh (.int ds.length))
 | [.tup ds]=> .ok (.sh (.int ds.length))
 |_=> .no
def Er:z_3 X (.builtin "len") By:=by
 intro zd s σ H vs us Q I rv q;obtain⟨EX,G,ds,g,r,o⟩:=q;cases r with
 |nil=>exact False.elim o
 |cons h t=>
  cases t with
  |cons _ _=>cases h <;> exact False.elim o
  |nil=>
   cases h with
   |str x=>
    simp only [By] at o
    split at o
    ·rename_i hz;exact br_7 zd s σ H _ _ Q I rv ⟨x,rfl,by rw [sizeLine_eq];exact hz,Dc o g (.int _)⟩
    ·exact o.elim
   |lst h r=>exact aq_3 zd s σ H _ _ Q I rv ⟨_,_,rfl,.inl (g.seq h),by rw [r.length];exact Dc o g (.int _)⟩
   |tup h r=>exact aq_3 zd s σ H _ _ Q I rv ⟨_,_,rfl,.inr (Same.tupS g h),by rw [r.length];exact Dc o g (.int _)⟩
   |_=>exact False.elim o
def Fp:List D->R W
 | [.int i,.int j]=> .ok (.sh (.int (if j > i then j else i)))
 |_=> .no
def minD:List D->R W
 | [.int i,.int j]=> .ok (.sh (.int (if j < i then j else i)))
 |_=> .no
def ca_5{G:Hp}{ds:List D}(r:HasL K G vs ds){P:Prop}(h:∀i j,vs= [.int i,.int j]->ds= [.int i,.int j]->P)(n:(∀i j,ds≠ [.int i,.int j])->P):P:=by
 by_cases e:∃i j,ds= [.int i,.int j]
 ·obtain⟨i,j,rfl⟩:=e;cases r with
  |cons a t=>
   cases t with
   |cons b t2=>
    cases t2;cases a;cases b;exact h i j rfl rfl
 ·exact n λi j z=>e ⟨i,j,z⟩
def dp_2{ds:List D}(h:∀i j,ds≠ [.int i,.int j]):Fp ds=.no:=by
 unfold Fp
 split
 ·rename_i i j;exact absurd rfl (h i j)
 ·rfl
def dp_3{ds:List D}(h:∀i j,ds≠ [.int i,.int j]):minD ds=.no:=by
 unfold minD
 split
 ·rename_i i j;exact absurd rfl (h i j)
 ·rfl
def ab_7(hc:X.calm=true):z_3 X (.builtin "max") Fp:=by
 intro zd s σ H vs us Q I rv q;obtain⟨EX,G,ds,g,r,o⟩:=q;refine ca_5 r (λi j e1 e2=> ?_) λn=> ?_
 ·subst e1 e2;exact cu_8 hc zd s σ H _ _ Q I rv ⟨i,j,rfl,Dc o g (.int _)⟩
 ·rw [dp_2 n] at o;exact o.elim
def au_2(hc:X.calm=true):z_3 X (.builtin "min") minD:=by
 intro zd s σ H vs us Q I rv q;obtain⟨EX,G,ds,g,r,o⟩:=q;refine ca_5 r (λi j e1 e2=> ?_) λn=> ?_
 ·subst e1 e2;exact cu_9 hc zd s σ H _ _ Q I rv ⟨i,j,rfl,Dc o g (.int _)⟩
 ·rw [dp_3 n] at o;exact o.elim
def bm_8:List D->R W
 | [.int i]=> .ok (.sh (.int i))
 | [.bl k]=> .ok (.sh (.int (if k then 1 else 0)))
 |_=> .no
def ck_6:z_3 X (.type "int") bm_8:=by
 intro zd s σ H vs us Q I rv q;obtain⟨EX,G,ds,g,r,o⟩:=q;cases r with
 |nil=>exact False.elim o
 |cons h t=>
  cases t with
  |cons _ _=>cases h <;> exact False.elim o
  |nil=>
   cases h with
   |int i=>exact bl_6 zd s σ H _ _ Q I rv (.inl ⟨i,rfl,Dc o g (.int _)⟩)
   |bl k=>exact bl_6 zd s σ H _ _ Q I rv (.inr ⟨k,rfl,Dc o g (.int _)⟩)
   |_=>exact False.elim o
def cq_9:List D->R W
 | [.int i]=>if i.natAbs.log2 < 1920 then .ok (.sh (.str (toString i))) else .no
 |_=> .no
def ck_7:z_3 X (.type "str") cq_9:=by
 intro zd s σ H vs us Q I rv q;obtain⟨EX,G,ds,g,r,o⟩:=q;cases r with
 |nil=>exact False.elim o
 |cons h t=>
  cases t with
  |cons _ _=>cases h <;> exact False.elim o
  |nil=>
   cases h with
   |int i=>
    simp only [cq_9] at o
    split at o
    ·rename_i hz;exact br_1 zd s σ H _ _ Q I rv ⟨i,rfl,hz,Dc o g (.str _)⟩
    ·exact o.elim
   |_=>exact False.elim o
def bs_6:List D->R W
 | [.lst ds]=> .ok (.ow (.lst ds))
 | [.tup ds]=> .ok (.ow (.lst ds))
 |_=> .no
def ax_2:z_3 X (.type "list") bs_6:=by
 intro zd s σ H vs us Q I rv q;obtain⟨EX,G,ds,g,r,o⟩:=q;cases r with
 |nil=>exact False.elim o
 |cons h t=>
  cases t with
  |cons _ _=>cases h <;> exact False.elim o
  |nil=>
   cases h with
   |lst h r=>exact aq_4 zd s σ H _ _ Q I rv ⟨_,_,rfl,.inl (g.seq h),z_1 o g r⟩
   |tup h r=>exact aq_4 zd s σ H _ _ Q I rv ⟨_,_,rfl,.inr (Same.tupS g h),z_1 o g r⟩
   |_=>exact False.elim o
def de_1:List D->R W
 | [.lst ds]=> .ok (.sh (.tup ds))
 | [.tup ds]=> .ok (.sh (.tup ds))
 |_=> .no
def ck_8:z_3 X (.type "tuple") de_1:=by
 intro zd s σ H vs us Q I rv q;obtain⟨EX,G,ds,g,r,o⟩:=q;cases r with
 |nil=>exact False.elim o
 |cons h t=>
  cases t with
  |cons _ _=>cases h <;> exact False.elim o
  |nil=>
   cases h with
   |lst h r=>
    refine am_0 zd s σ H _ _ Q I rv ⟨_,_,rfl,.inl ⟨g.seq h,λp hp=> ?_⟩⟩;exact o (.ref p) _ _ (Step.new g hp _) (.tup (SqT.of Cs) (r.mono (o_0 (g.free hp) _)))
   |tup h r=>exact am_0 zd s σ H _ _ Q I rv ⟨_,_,rfl,.inr ⟨Same.tupS g h,Dc o g (.tup h r)⟩⟩
   |_=>exact False.elim o
end
structure RoomC(c:Bool)(k:Nat)(A:Around):Prop where
 hd:c=true->A.handled=none
 dp:A.depth + 3 * k + 5 < recursionLimit
 un:A.units + 16 * k + 200 < cLine
def RoomC.mono{c:Bool}{j k:Nat}{A:Around}(r:RoomC c k A)(h:j<=k):RoomC c j A:=⟨r.hd,by have:=r.dp;omega,by have:=r.un;omega⟩
theorem RoomC.deeper{c:Bool}{k:Nat}{A:Around}(r:RoomC c (k + 1) A)(env:Env):RoomC c k (A.deeper env):=
 ⟨r.hd,by have:=r.dp;show A.depth + 1 + 3 * k + 5 < _;omega,by have:=r.un;show A.units + 3 + 16 * k + 200 < _;omega⟩
def RoomC.make{c:Bool}{k:Nat}{A:Around}(r:RoomC c (k + 1) A)(C:Addr)(us:List Value)(kw:List (Str×Value)):RoomC c k (A.under (.builtin "type.__call__" ⟨.ref C::us,kw⟩)):=
 ⟨r.hd,by have:=r.dp;rw [cj_6];omega,by have:=r.un;rw [cj_7];omega⟩
def RoomC.loose{c:Bool}{k:Nat}{A:Around}(r:RoomC c k A):RoomC false k A:=⟨λz=>absurd z Bool.false_ne_true,r.dp,r.un⟩
theorem RoomC.mark{c:Bool}{k:Nat}{A:Around}(r:RoomC c k A)(h:Option Value):RoomC false k (A.mark h):=⟨λz=>absurd z Bool.false_ne_true,r.dp,r.un⟩
def RoomC.of{k:Nat}{A:Around}(r:Room k A):RoomC true k A:=⟨λ_=>r.hd,r.dp,r.un⟩
structure FnX(P:Program)(w:World)(K:Frag)(mg:Str->Option Value)(base:Heap)(c:Bool)(k:Nat)(f:Addr)(fd:FuncData)(ps:List Str)(sp:Sp):Prop where
 len:∀vs H Q E,sp vs H Q E->vs.length=ps.length
 run:∀(A:Around) (outer:List Env) (s:Shared) (H:Hp) (args:Args) (us:List Value) (vs:List V) (Q:VK) (E:XK),RoomC c k A->Env0 P w K mg base A outer s H->BindsTo s fd args (ps.zip us)->Vals vs us->sp vs H Q E->
  codeAny (model P w) A (.call (.ref f) args) (CR (CXr P w) outer P w H s Q E) s
abbrev cxN(c:Bool)(P:Program)(w:World)(K:Frag)(mg:Str->Option Value)(base:Heap)(N:List Str)(qual:Str)(scope:Scope)(f:Addr)(cd:Value)(A:Around)(outer:List Env)(s:Shared)(H:Hp)(E:XK):Cx:=
 {Fm (CXr P w) P w K mg base N qual scope f cd A outer s H E with calm:=c}
def ck_9{c:Bool}{w:World}{N ps:List Str}{qual:Str}{scope:Scope}{f:Addr}{cd:Value}{A:Around}{outer:List Env}{s s1:Shared}{E:XK}{vs:List V}
  (S:FnScope N ps scope) (hd:c=true->A.handled=none) (e0:Env0 P w K mg base A outer s H) (hl:vs.length=ps.length) (r:Vals vs us)
  (x:InCallC s s.heap.objs.size (bindL (envOfC qual scope s.heap.objs.size f cd).kindOf (ps.zip us) λ_=>none) (cellsFrom (s.heap.objs.size + 1) scope.names []) (bindC (envOfC qual scope s.heap.objs.size f cd).kindOf (ps.zip us) λ_=>none) s1):
  Inv (cxN c P w K mg base N qual scope f cd A outer s H E) [] (Gd N vs) H s1:=by
 have I:=cv_2 (CX:=CXr P w) (E:=E) (qual:=qual) (f:=f) (cd:=cd) (A:={A with handled:=none}) S rfl ⟨e0.frames,e0.mod,e0.bs,e0.bsz,e0.funs,e0.frf,e0.hok,e0.bare⟩ hl r x;exact⟨⟨I.ok.mod,I.ok.kind,I.ok.glob,I.ok.blt,I.ok.above,I.ok.inj,I.ok.has,I.ok.cab,hd,Around.frames_deeper e0.frames,I.ok.stk,I.ok.exf,I.ok.bs,I.ok.bsz,I.ok.noex,I.ok.exfs,I.ok.funs,I.ok.frf⟩,
  I.os,I.bare,I.base,I.loc,I.cell,I.free,I.freeC,I.pin,I.hok,I.len⟩
def eb_1{c:Bool}{w:World}{k:Nat}{f:Addr}{name qual:Str}{params:Arguments}{body:List Stmt}{scope:Scope}{dV kV doc pm zq ct oc:Value}{an od:Option Addr}
  {osl:Array (Option Value)} {N ps:List Str} {sp:Sp} (lk:K.lookup f=some ⟨oc,od,.func (fnOf name qual params body scope dV kV doc pm an zq ct),osl⟩) (hcd:codeIn K zq qual=true) (S:FnScope N ps scope)
  (len:∀vs H Q E,sp vs H Q E->vs.length=ps.length)
  (zk:∀(A:Around) (outer:List Env) (s:Shared) (H:Hp) (vs:List V) (Q:VK) (E:XK),RoomC c k (A.deeper (envOfC qual scope s.heap.objs.size f zq))->sp vs H Q E->
   ∃t,PSs (cxN c P w K mg base N qual scope f zq A outer s H E) body t/\t {nx:=λ_ H'=>Q .non H',rt:=Q} (Gd N vs) H):
  FnX P w K mg base c (k + 1) f (fnOf name qual params body scope dV kV doc pm an zq ct) ps sp:=by
 refine⟨len,λA outer s H args us vs Q E hr e0 hb r hsp=> ?_⟩;have hl:=len _ _ _ _ hsp;have KX:K.In s.heap:=e0.mod.kin.keeps λb o e=>(e0.bs b o e).1;have lim:s.heap.NoLimit:=e0.mod.nolimit.keeps λb o e=>(e0.bs b o e).1;have cb:∀y∈ps.zip us,scope.names.lookup y.1=some .local\/(scope.names.lookup y.1=some .cell/\((cellsFrom (s.heap.objs.size + 1) scope.names []).lookup y.1).isSome=true):=λ⟨n,v⟩ hy=>by
  rcases S.par n (List.of_mem_zip hy).1 with q|q
  ·exact .inl q
  ·exact .inr ⟨q,cellsFrom_some _ _ _ (.inl q)⟩
 have dp:A.depth < recursionLimit:=by have:=hr.dp;omega
 refine codeAny_call_function dp (KX _ _ lk) rfl S.co S.gen rfl (codeRec_of KX hcd) (hb _ _ _ _ ?_);refine wpAny_newFunctionEnv_cells S.kind cb λenv he s1 x=> ?_;subst he;refine⟨lim.keeps x.toInCall.keep,codeAny_func ?_⟩;obtain⟨t,ht,hq⟩:=zk A outer s H vs Q E (hr.deeper _) hsp;have I:Inv (cxN c P w K mg base N qual scope f zq A outer s H E) [] (Gd N vs) H s1:=ck_9 S hr.hd e0 hl r x;refine wpAny_mono (ht [] s1 (Gd N vs) H _ I hq) (λfl s' hs=> ?_) λe s' hs=>hs;have fin:∀{σ':Sg} {H':Hp} {v:V} {u:Value},Inv (cxN c P w K mg base N qual scope f zq A outer s H E) [] σ' H' s'->RelV v u->Q v H'->CE outer P w H s Q u s':=
  λ{σ' H' v u} J rv q=>⟨v,H',J.os,J.bare,J.base,J.hok,rv,q⟩
 cases fl with
 |ret u=>
  obtain⟨v,σ',H',J,rv,q⟩:=hs;exact fin J rv q
 |next=>
  obtain⟨σ',H',J,q⟩:=hs;exact fin (v:=V.non) (u:=Value.none) J rfl q
 |brk=>
  obtain⟨_,_,_,q⟩:=hs;exact False.elim q
 |cont=>
  obtain⟨_,_,_,q⟩:=hs;exact False.elim q
def Fun.okX{c:Bool}{w:World}{x qual:Str}{st:Stmt}{f:Addr}{N ps:List Str}{k:Nat}{sp:Sp}(F:Fun K x qual st f fd)(S:FnScope N ps (Ck st))(len:∀vs H Q E,sp vs H Q E->vs.length=ps.length)
  (zk:∀(zq:Value) (A:Around) (outer:List Env) (s:Shared) (H:Hp) (vs:List V) (Q:VK) (E:XK),RoomC c k (A.deeper (envOfC qual (Ck st) s.heap.objs.size f zq))->sp vs H Q E->
   ∃t,PSs (cxN c P w K mg base N qual (Ck st) f zq A outer s H E) (Fc st) t/\t {nx:=λ_ H'=>Q .non H',rt:=Q} (Gd N vs) H):FnX P w K mg base c (k + 1) f fd ps sp:=by
 obtain⟨oc,od,kV,doc,pm,an,zq,ct,osl,rfl,lk,hcd⟩:=F.ex;exact eb_1 lk hcd S len λA outer s H vs Q E hr hsp=>zk zq A outer s H vs Q E hr hsp
def Lk(X:Cx)(EX:Bo):Prop:=∀(zd:List (Addr×Obj)) (σ:Sg) (H:Hp) (s:Shared) (e:Value) (s':Shared),Inv X zd σ H s->CXr X.prog X.w X.stack H s (EXE X.K (EX σ)) e s'->X.xe e s'
def l_1:Lk X Du:=λzd σ H s e s' I c=>by
 obtain⟨a,C,dx,T,H',_,_,_,_,_,_,_,_,_,_,x,G,_,_,q⟩:=c;exact False.elim q
def cl_0{c:Bool}{w:World}{N:List Str}{qual:Str}{scope:Scope}{f:Addr}{cd:Value}{A:Around}{outer:List Env}{s:Shared}{E:XK}:
  Lk (cxN c P w K mg base N qual scope f cd A outer s H E) (λ_=>EXof K E):=λzd σ H s e s' I h=>cv_8 I h λcls dx H' q=>q.of
def Bh(K:Frag)(n:Nat)(F:List D->R W):Sp:=λvs H Q E=>vs.length=n/\∃G ds,Same G H/\HasL K G vs ds/\Out K (EXof K E) G H (F ds) Q
def Ap(n:Nat)(F:List D->R W)(fa:FA):FE:=λ δ=>(fa δ).bind λds=>if ds.length=n then F ds else .no
def FnD(P:Program)(w:World)(K:Frag)(mg:Str->Option Value)(base:Heap)(c:Bool)(x:Str)(k:Nat)(ps:List Str)(F:List D->R W):Prop:=
 ∃f fd,FnX P w K mg base c k f fd ps (Bh K ps.length F)/\mg x=some (.ref f)/\keepIn K (.ref f)=true/\Binds K fd ps []
section
variable{X:Cx}{EX:Bo}{e:Expr}{es:List Expr}{fa:FA}{x:Str}{pp pos:Pos}{c:Bool}{k k':Nat}{ps:List Str}{F:List D->R W}
def aq_8{zd:List (Addr×Obj)}{σ:Sg}{s:Shared}{Q:VK}{f:Addr}{sp:Sp}(F:FnX X.prog X.w X.K X.mg X.base c k f fd ps sp)(hr:RoomC c k X.A)(hb:Binds X.K fd ps [])(lk:Lk X EX)
  (I:Inv X zd σ H s) (r:Vals vs us) (h:sp vs H Q (EXE X.K (EX σ))):wpAny (model X.prog X.w) X.A (call (.ref f) us) (EP X zd σ Q) X.xe s:=by
 have hl:us.length=ps.length:=by rw [<-r.length];exact F.len _ _ _ _ h
 have hb':=hb s us I.kIn (by rw [List.append_nil];exact hl);rw [List.append_nil] at hb';refine wpAny_call (codeAny_mono (F.run X.A X.stack s H ⟨us,[]⟩ us vs Q _ hr I.env0 hb' r h) λr s' hq=> ?_);cases r with
 |error e=>exact lk zd σ H s e s' I hq
 |ok fl=>
  cases fl with
  |ret u=>exact I.after hq
  |next=>exact False.elim hq
  |brk=>exact False.elim hq
  |cont=>exact False.elim hq
def Ax(hr:RoomC c k' X.A)(lk:Lk X EX)(h:FnD X.prog X.w X.K X.mg X.base c x k ps F)(ha:AD X EX (e::es) fa)(hk:k<=k':=by decide)(hg:Gl X x:=by rfl)(hdb:(x ==("__debug__" :Str))=false:=by decide)
  (he:starEach (e::es) X.env=(false,eval e X.env)::starEach es X.env:=by rfl) (hpl:(backTo pos (starEach es X.env)).any (·.1)=false:=by rfl):
  ED X EX (.Call (.Name x pp) (e::es) [] pos) (Ap ps.length F fa):=by
 obtain⟨f,fd,ok,hm,kp,hb⟩:=h;intro zd s σ H Q I q;obtain⟨G,δ,g0,s0,o⟩:=q;refine wpAny_Call_Name_kw (w_9 I hg hm ?_ hdb);have ta:tDa X.K EX fa σ H λvs H1=>Bh X.K ps.length F vs H1 Q (EXE X.K (EX σ)):=by
  refine tDa.seq g0 s0 o λds vs G' H' _ st r o'=> ?_
  split at o'
  ·rename_i hl;refine⟨by rw [r.length];exact hl,G',ds,st.gh,r, ?_⟩;cases q:F ds with
   |ok w=>rw [q] at o';exact o'
   |ex x=>rw [q] at o';exact EXof.in o'
   |no=>rw [q] at o';exact o'.elim
  ·exact o'.elim
 refine callWith_K (h₀:=X.base) I.ok.mod.kin kp (Bi (ha pos zd s σ H _ I ta) λus s1 ⟨vs,H1,I1,r,q⟩=>⟨I1.kIn, ?_⟩) he hpl;exact aq_8 ok (hr.mono hk) hb lk I1 r q
end
inductive Sl where
 |no|sh (d:D)|ow (d:D)|tr (t:Tn)|lk (d:D)|lt (t:Tn)
abbrev SE:=List Sl
inductive Fl where
 |nx (Δ:SE)|rt (w:W)|bk (Δ:SE)|ct (Δ:SE)|ex (x:Xn) (Δ:SE)|no
abbrev FS:=SE->Fl
def Sl.pub:Sl->Option D
 | .sh d=>some d
 |_=>none
def Sl.any:Sl->Option D
 | .sh d=>some d
 | .ow d=>some d
 | .tr t=>some t.d
 | .lk d=>some d
 | .lt t=>some t.d
 | .no=>none
def Sl.give:Sl->Sl
 | .ow d=> .sh d
 | .tr t=> .sh t.d
 |s=>s
def Sl.own:Sl->Option Tn
 | .ow d=>some (Tn.of d)
 | .tr t=>some t
 | .lk d=>some (Tn.of d)
 | .lt t=>some t
 |_=>none
def Bb(Δ:SE):DE:=Δ.map Sl.pub
def As(Δ:SE):DE:=Δ.map Sl.any
def gall(Δ:SE):SE:=Δ.map Sl.give
abbrev OS:=Nat->AS
structure HB where
 h:Hp
 b:Nat->Addr
structure Ev(K:Frag)(H0:HB)(G0 G H:Hp)(σ:Sg)(Δ:SE)(A:OS):Prop where
 st:Step G0 H0.h G H
 len:σ.length=Δ.length
 sh:∀(i:Nat) (d:D),Δ[i]? =some (.sh d)->∃v,σ[i]? =some (some v)/\Has K G v d
 ow:∀(i:Nat) (s:Sl) (t:Tn),Δ[i]? =some s->s.own=some t->∃v,σ[i]? =some (some v)/\Ow K G H v t (A i)
 out:∀(i:Nat) (a:Addr),A i a->G a=none/\H0.h a=none/\H a≠none
 dj:∀(i j:Nat) (a:Addr),A i a->A j a->i=j
 lk:∀(i:Nat) (d:D),Δ[i]? =some (.lk d)->σ[i]? =some (some (.ref (H0.b i)))
 lt:∀(i:Nat) (t:Tn),Δ[i]? =some (.lt t)->σ[i]? =some (some (.ref (H0.b i)))
def Fy(G H:Hp)(A:OS):Hp:=Gr G H λb=>∃i,A i b
structure MStep(S:AS)(G H G' H':Hp):Prop where
 hh:∀b o,¬S b->H b=some o->H' b=some o
 al:∀b,H b≠none->H' b≠none
 gh:Same G' H'
 gg:Same G G'
 nw:∀b,G b=none->H b≠none->G' b=none
structure MStep2(S:AS)(G H G' H':Hp):Prop where
 hh:∀b o,¬S b->H b=some o->H' b=some o
 gh:Same G' H'
 gg:Same G G'
 nw:∀b,¬S b->G b=none->H b≠none->G' b=none
def MStep.weak{S:AS}{G H G' H':Hp}(m:MStep S G H G' H'):MStep2 S G H G' H':=⟨m.hh,m.gh,m.gg,λb _=>m.nw b⟩
def Step.m{S:AS}{G H G' H':Hp}(s:Step G H G' H'):MStep S G H G' H':=⟨λb o _ q=>s.hh b o q,λb n z=>n (s.hh.free z),s.gh,s.gg,s.nw⟩
def MStep.andThen{S:AS}{G H G1 H1 G2 H2:Hp}(a:MStep S G H G1 H1)(b:Step G1 H1 G2 H2):MStep S G H G2 H2:=
 ⟨λc o n q=>b.hh c o (a.hh c o n q),λc n z=>a.al c n (b.hh.free z),b.gh,a.gg.trans b.gg,λc e n=>b.nw c (a.nw c e n) (a.al c n)⟩
def MStep.write{S:AS}{G H:Hp}(g:Same G H){a:Addr}(hs:S a)(n:G a=none)(o:HO):MStep S G H G (L2.upd H a o):=
 ⟨λb o' nb q=>by rw [Bm (λz=>nb (by rw [z];exact hs))];exact q,λb nb=>by
  by_cases z:b=a
  ·subst z;rw [Cs];simp
  ·rw [Bm z];exact nb,λb o' q=>by
  by_cases z:b=a
  ·subst z;rw [n] at q;cases q
  ·rw [Bm z];exact g b o' q,Same.refl _,λ_ e _=>e⟩
def setA(A:OS)(i:Nat)(S:AS):OS:=λj=>if j=i then S else A j
def m_4{A:OS}{i:Nat}{S:AS}:setA A i S i=S:=if_pos rfl
def m_2{A:OS}{i j:Nat}{S:AS}(h:j≠i):setA A i S j=A j:=if_neg h
section
variable{K:Frag}{H0:HB}{G0 G H G' H':Hp}{σ:Sg}{Δ:SE}{A:OS}
def Ev.gsh(E:Ev K H0 G0 G H σ Δ A):HasS K G σ (Bb Δ):=⟨by rw [E.len];unfold Bb;rw [List.length_map],λi d q=>by
 unfold Bb at q;rw [List.getElem?_map] at q;cases e:Δ[i]? with
 |none=>rw [e] at q;cases q
 |some z=>
  rw [e] at q;cases z with
  |sh d'=>cases q;exact E.sh i d e
  |_=>cases q⟩
def Ev.aH(E:Ev K H0 G0 G H σ Δ A):Same (Fy G H A) H:=λb o q=>by
 unfold Fy Gr at q
 split at q
 ·exact q
 ·exact E.st.gh b o q
def Ev.aG(E:Ev K H0 G0 G H σ Δ A):Same G (Fy G H A):=λb o q=>by
 unfold Fy Gr
 split
 ·rename_i hb;obtain⟨i,hb⟩:=hb;rw [(E.out i b hb).1] at q;cases q
 ·exact q
def Ev.aStep(E:Ev K H0 G0 G H σ Δ A):Step G0 H0.h (Fy G H A) H:=
 ⟨E.st.hh,E.aH,E.st.gg.trans E.aG,λb n z=>by
  unfold Fy Gr
  split
  ·rename_i hb;obtain⟨i,hb⟩:=hb;exact absurd (E.out i b hb).2.1 z
  ·exact E.st.nw b n z⟩
def Ev.aIn{A:OS}{G H:Hp}{i:Nat}{b:Addr}{o:HO}(hb:A i b)(q:H b=some o):Fy G H A b=some o:=by
 unfold Fy Gr;rw [if_pos ⟨i,hb⟩];exact q
def Ev.gall(E:Ev K H0 G0 G H σ Δ A):HasS K (Fy G H A) σ (As Δ):=⟨by rw [E.len];unfold As;rw [List.length_map],λi d q=>by
 unfold As at q;rw [List.getElem?_map] at q;cases e:Δ[i]? with
 |none=>rw [e] at q;cases q
 |some z=>
  rw [e] at q;cases z with
  |sh d'=>
   cases q;obtain⟨v,e1,r⟩:=E.sh i d e;exact⟨v,e1,r.mono E.aG⟩
  |ow d'=>
   cases q;obtain⟨v,e1,t⟩:=E.ow i _ _ e rfl;have r:=t.has E.aG λb o hb q=>Ev.aIn hb q;rw [Tn.of_d] at r;exact⟨v,e1,r⟩
  |tr t'=>
   cases q;obtain⟨v,e1,t⟩:=E.ow i _ _ e rfl;exact⟨v,e1,t.has E.aG λb o hb q=>Ev.aIn hb q⟩
  |lk d'=>
   cases q;obtain⟨v,e1,t⟩:=E.ow i _ _ e rfl;have r:=t.has E.aG λb o hb q=>Ev.aIn hb q;rw [Tn.of_d] at r;exact⟨v,e1,r⟩
  |lt t'=>
   cases q;obtain⟨v,e1,t⟩:=E.ow i _ _ e rfl;exact⟨v,e1,t.has E.aG λb o hb q=>Ev.aIn hb q⟩
  |no=>cases q⟩
def Ev.grow(E:Ev K H0 G0 G H σ Δ A)(s:Step G H G' H'):Ev K H0 G0 G' H' σ Δ A:=
 ⟨E.st.trans s,E.len,λi d e=>let⟨v,e1,r⟩:=E.sh i d e;⟨v,e1,r.mono s.gg⟩,λi z d e z'=>let⟨v,e1,t⟩:=E.ow i z d e z';⟨v,e1,t.mono s.gg (λb o _ q=>s.hh b o q) λ_ q=>q⟩,
  λi a ha=>let⟨h1,h2,h3⟩:=E.out i a ha;⟨s.nw a h1 h3,h2,λz=>h3 (s.hh.free z)⟩,E.dj,E.lk,E.lt⟩
def Ev.keep(E:Ev K H0 G0 G H σ Δ A)(s:Same H H'):Ev K H0 G0 G H' σ Δ A:=
 E.grow ⟨s,E.st.gh.trans s,Same.refl _,λ_ n _=>n⟩
def Gj{α:Type}{l:List α}{i j:Nat}{x y:α}(h:(l.set i x)[j]? =some y):(i=j/\y=x)\/(i≠j/\l[j]? =some y):=by
 by_cases e:i=j
 ·subst e;rw [List.getElem?_set] at h;simp only [if_true] at h
  split at h
  ·exact .inl ⟨rfl,(Option.some.inj h).symm⟩
  ·cases h
 ·rw [List.getElem?_set_ne e] at h;exact .inr ⟨e,h⟩
def cl_1{α:Type}{l:List α}{i:Nat}{x y:α}(h:(l.set i x)[i]? =some y):i < l.length:=by
 by_cases hh:i < l.length
 ·exact hh
 ·rw [List.getElem?_eq_none (by rw [List.length_set];omega)] at h;cases h
def Ev.put(E:Ev K H0 G0 G H σ Δ A){i:Nat}{d:D}(r:Has K G v d):Ev K H0 G0 G H (σ.set i (some v)) (Δ.set i (.sh d)) A:=by
 refine⟨E.st,by rw [List.length_set,List.length_set];exact E.len,λj d' e=> ?_,λj z d' e zo=> ?_,E.out,E.dj,λj d' e=> ?_,λj d' e=> ?_⟩
 ·rcases Gj e with⟨rfl,q⟩|⟨n,q⟩
  ·cases q;exact⟨v,by rw [List.getElem?_set_self (by rw [E.len];exact cl_1 e)],r⟩
  ·obtain⟨v',e1,r'⟩:=E.sh j d' q;exact⟨v',by rw [List.getElem?_set_ne n];exact e1,r'⟩
 ·rcases Gj e with⟨rfl,q⟩|⟨n,q⟩
  ·subst q;cases zo
  ·obtain⟨v',e1,t⟩:=E.ow j z d' q zo;exact⟨v',by rw [List.getElem?_set_ne n];exact e1,t⟩
 ·rcases Gj e with⟨rfl,q⟩|⟨n,q⟩
  ·cases q
  ·rw [List.getElem?_set_ne n];exact E.lk j d' q
 ·rcases Gj e with⟨rfl,q⟩|⟨n,q⟩
  ·cases q
  ·rw [List.getElem?_set_ne n];exact E.lt j d' q
def Ev.putO(E:Ev K H0 G0 G H σ Δ A){i:Nat}{z:Sl}{d:Tn}{S:AS}(fr:∀a,S a->H0.h a=none/\G a=none/\H a≠none)(zo:z.own=some d)(zl:∀d,z≠ .lk d)(t:Ow K G H v d S)(nw:∀j a,A j a->¬S a)(zt:∀d,z=.lt d->v=.ref (H0.b i):=by intro _ z;cases z):
  Ev K H0 G0 G H (σ.set i (some v)) (Δ.set i z) (setA A i S):=by
 refine⟨E.st,by rw [List.length_set,List.length_set];exact E.len,λj d' e'=> ?_,λj z' d' e' zo'=> ?_,λj a ha=> ?_,λj j' a h1 h2=> ?_,λj d' e'=> ?_,λj d' e'=> ?_⟩
 ·rcases Gj e' with⟨rfl,q⟩|⟨nn,q⟩
  ·subst q;cases zo
  ·obtain⟨v',e1,r'⟩:=E.sh j d' q;exact⟨v',by rw [List.getElem?_set_ne nn];exact e1,r'⟩
 ·rcases Gj e' with⟨rfl,q⟩|⟨nn,q⟩
  ·subst q;rw [zo] at zo';cases zo';exact⟨v,by rw [List.getElem?_set_self (by rw [E.len];exact cl_1 e')],by rw [m_4];exact t⟩
  ·obtain⟨v',e1,x⟩:=E.ow j z' d' q zo';exact⟨v',by rw [List.getElem?_set_ne nn];exact e1,by rw [m_2 (Ne.symm nn)];exact x⟩
 ·by_cases z:j=i
  ·subst z;rw [m_4] at ha;obtain⟨a1,a2,a3⟩:=fr a ha;exact⟨a2,a1,a3⟩
  ·rw [m_2 z] at ha;exact E.out j a ha
 ·by_cases z:j=i
  ·by_cases z':j'=i
   ·rw [z,z']
   ·rw [z,m_4] at h1;rw [m_2 z'] at h2;exact absurd h1 (nw j' a h2)
  ·by_cases z':j'=i
   ·rw [m_2 z] at h1;rw [z',m_4] at h2;exact absurd h2 (nw j a h1)
   ·rw [m_2 z] at h1;rw [m_2 z'] at h2;exact E.dj j j' a h1 h2
 ·rcases Gj e' with⟨rfl,q⟩|⟨nn,q⟩
  ·exact absurd q.symm (zl d')
  ·rw [List.getElem?_set_ne nn];exact E.lk j d' q
 ·rcases Gj e' with⟨rfl,q⟩|⟨nn,q⟩
  ·rw [List.getElem?_set_self (by rw [E.len];exact cl_1 e'),zt d' q.symm]
  ·rw [List.getElem?_set_ne nn];exact E.lt j d' q
def Ev.step2(E:Ev K H0 G0 G H σ Δ A){i:Nat}{z:Sl}{d':Tn}{S:AS}(zo:z.own=some d')(zl:∀d,z≠ .lk d)(zt:∀d,z=.lt d->σ[i]? =some (some (.ref (H0.b i))))(ms:MStep2 (A i) G H G' H')(s:σ[i]? =some (some v))(fr:∀a,S a->(A i a\/H a=none)/\G' a=none/\H' a≠none)(t:Ow K G' H' v d' S):
  Ev K H0 G0 G' H' σ (Δ.set i z) (setA A i S):=by
 have st:Step G0 H0.h G' H':=⟨λb o q=>ms.hh b o (λhb=>by rw [(E.out i b hb).2.1] at q;cases q) (E.st.hh b o q),ms.gh,E.st.gg.trans ms.gg,
  λb n z=>ms.nw b (λhb=>z (E.out i b hb).2.1) (E.st.nw b n z) λq=>z (E.st.hh.free q)⟩
 refine⟨st,by rw [List.length_set];exact E.len,λj d2 e'=> ?_,λj z' d2 e' zo'=> ?_,λj a ha=> ?_,λj j' a h1 h2=> ?_,λj d2 e'=> ?_,λj d2 e'=> ?_⟩
 ·rcases Gj e' with⟨rfl,q⟩|⟨nn,q⟩
  ·subst q;cases zo
  ·obtain⟨v',e1,r'⟩:=E.sh j d2 q;exact⟨v',e1,r'.mono ms.gg⟩
 ·rcases Gj e' with⟨rfl,q⟩|⟨nn,q⟩
  ·subst q;rw [zo] at zo';cases zo';exact⟨v,s,by rw [m_4];exact t⟩
  ·obtain⟨v',e1,x⟩:=E.ow j z' d2 q zo';rw [m_2 (Ne.symm nn)];exact⟨v',e1,x.mono ms.gg (λb o hb q=>ms.hh b o (λhi=>nn (E.dj i j b hi hb)) q) λ_ q=>q⟩
 ·by_cases z:j=i
  ·subst z;rw [m_4] at ha;obtain⟨a1,a2,a3⟩:=fr a ha;refine⟨a2, ?_,a3⟩;rcases a1 with a1|a1
   ·exact(E.out j a a1).2.1
   ·exact E.st.hh.free a1
  ·rw [m_2 z] at ha;obtain⟨h1,h2,h3⟩:=E.out j a ha;have hn:¬A i a:=λhb=>z (E.dj j i a ha hb);refine⟨ms.nw a hn h1 h3,h2,λq=> ?_⟩;cases e:H a with
   |none=>exact h3 e
   |some o=>rw [ms.hh a o hn e] at q;cases q
 ·have own:∀k,k≠i->A k a->¬S a:=λk nk hk hs=>by
   rcases(fr a hs).1 with q|q
   ·exact nk (E.dj k i a hk q)
   ·exact(E.out k a hk).2.2 q
  by_cases z:j=i
  ·by_cases z':j'=i
   ·rw [z,z']
   ·rw [z,m_4] at h1;rw [m_2 z'] at h2;exact absurd h1 (own j' z' h2)
  ·by_cases z':j'=i
   ·rw [m_2 z] at h1;rw [z',m_4] at h2;exact absurd h2 (own j z h1)
   ·rw [m_2 z] at h1;rw [m_2 z'] at h2;exact E.dj j j' a h1 h2
 ·rcases Gj e' with⟨rfl,q⟩|⟨nn,q⟩
  ·exact absurd q.symm (zl d2)
  ·exact E.lk j d2 q
 ·rcases Gj e' with⟨rfl,q⟩|⟨nn,q⟩
  ·exact zt d2 q.symm
  ·exact E.lt j d2 q
def Ev.step(E:Ev K H0 G0 G H σ Δ A){i:Nat}{z:Sl}{d':Tn}{S:AS}(zo:z.own=some d')(zl:∀d,z≠ .lk d)(ms:MStep (A i) G H G' H')(s:σ[i]? =some (some v))(fr:∀a,S a->(A i a\/H a=none)/\G' a=none/\H' a≠none)(t:Ow K G' H' v d' S)(zt:∀d,z≠ .lt d:=by intro _ z;cases z):
  Ev K H0 G0 G' H' σ (Δ.set i z) (setA A i S):=E.step2 zo zl (λd e=>absurd e (zt d)) ms.weak s fr t
def Ev.writeL(E:Ev K H0 G0 G H σ Δ A){i:Nat}{a:Addr}{ds:List D}(s:σ[i]? =some (some (.ref a)))(m:A i a)(r:HasL K G vs ds):Ev K H0 G0 G (upd H a (.lst vs)) σ (Δ.set i (.ow (.lst ds))) (setA A i (A i)):=
 have ms:=MStep.write E.st.gh m (E.out i a m).1 (.lst vs)
 E.step rfl (λ_ z=>by cases z) ms s (λb hb=>⟨.inl hb,(E.out i b hb).1,ms.al b (E.out i b hb).2.2⟩) (Ow.list Cs m r)
def Ev.writeD(E:Ev K H0 G0 G H σ Δ A){i:Nat}{a:Addr}{kvs:List (At×V)}{kds:List (At×D)}(s:σ[i]? =some (some (.ref a)))(m:A i a)(hk:kvs.map (·.1)=kds.map (·.1))(r:HasL K G (kvs.map (·.2)) (kds.map (·.2))):Ev K H0 G0 G (upd H a (.dK kvs)) σ (Δ.set i (.ow (.dic kds))) (setA A i (A i)):=
 have ms:=MStep.write E.st.gh m (E.out i a m).1 (.dK kvs)
 E.step rfl (λ_ z=>by cases z) ms s (λb hb=>⟨.inl hb,(E.out i b hb).1,ms.al b (E.out i b hb).2.2⟩) (Ow.dict Cs hk m r)
end
def give1(Δ:SE)(j:Nat):SE:=match Δ[j]? with
 |some s=>Δ.set j s.give
 |none=>Δ
def gsome(js:List Nat)(Δ:SE):SE:=js.foldl give1 Δ
section
variable{K:Frag}{H0:HB}{G0 G H:Hp}{σ:Sg}{Δ:SE}{A:OS}
def ab_8{α:Type}{l:List α}{j:Nat}{x:α}(h:l[j]? =some x):l.set j x=l:=by
 apply List.ext_getElem?;intro i
 by_cases e:j=i
 ·subst e;have hlt:j < l.length:=(List.getElem?_eq_some_iff.mp h).1;rw [List.getElem?_set_self hlt,h]
 ·rw [List.getElem?_set_ne e]
def Ev.give3(E:Ev K H0 G0 G H σ Δ A){j:Nat}{z:Sl}{t:Tn}(e:Δ[j]? =some z)(zo:z.own=some t):Same G (Gr G H (A j))/\Ev K H0 G0 (Gr G H (A j)) H σ (Δ.set j (.sh t.d)) (setA A j λ_=>False):=by
   obtain⟨v,s1,t⟩:=E.ow j z t e zo;have sg:Same G (Gr G H (A j)):=λb o q=>by
    unfold Gr
    split
    ·rename_i hb;rw [(E.out j b hb).1] at q;cases q
    ·exact q
   have gh:Same (Gr G H (A j)) H:=λb o q=>by
    unfold Gr at q
    split at q
    ·exact q
    ·exact E.st.gh b o q
   refine⟨sg,⟨E.st.hh,gh,E.st.gg.trans sg,λb h1 h2=> ?_⟩,by rw [List.length_set];exact E.len,λi d' e'=> ?_,λi z' d' e' zo'=> ?_,λi b hb=> ?_,λi i' b h1 h2=> ?_,λi d' e'=> ?_,λi d' e'=> ?_⟩
   ·unfold Gr
    split
    ·rename_i hb;exact absurd (E.out j b hb).2.1 h2
    ·exact E.st.nw b h1 h2
   ·rcases Gj e' with⟨rfl,q⟩|⟨n,q⟩
    ·cases q;refine⟨v,s1,t.has sg λb o hb q=> ?_⟩;unfold Gr;rw [if_pos hb];exact q
    ·obtain⟨v',e1,r⟩:=E.sh i d' q;exact⟨v',e1,r.mono sg⟩
   ·rcases Gj e' with⟨rfl,q⟩|⟨n,q⟩
    ·subst q;cases zo'
    ·obtain⟨v',e1,t'⟩:=E.ow i z' d' q zo';rw [m_2 (Ne.symm n)];exact⟨v',e1,t'.mono sg (λb o _ q=>q) λ_ q=>q⟩
   ·by_cases z:i=j
    ·subst z;rw [m_4] at hb;exact hb.elim
    ·rw [m_2 z] at hb;obtain⟨k1,k2,k3⟩:=E.out i b hb;refine⟨?_,k2,k3⟩;unfold Gr;rw [if_neg λq=>z (E.dj i j b hb q)];exact k1
   ·by_cases z:i=j
    ·subst z;rw [m_4] at h1;exact h1.elim
    ·by_cases z':i'=j
     ·subst z';rw [m_4] at h2;exact h2.elim
     ·rw [m_2 z] at h1;rw [m_2 z'] at h2;exact E.dj i i' b h1 h2
   ·rcases Gj e' with⟨rfl,q⟩|⟨n,q⟩
    ·cases q
    ·exact E.lk i d' q
   ·rcases Gj e' with⟨rfl,q⟩|⟨n,q⟩
    ·cases q
    ·exact E.lt i d' q
def Ev.give2(E:Ev K H0 G0 G H σ Δ A){j:Nat}{z:Sl}{t:Tn}(e:Δ[j]? =some z)(zo:z.own=some t):∃G' A',Same G G'/\Ev K H0 G0 G' H σ (Δ.set j (.sh t.d)) A':=⟨_,_,E.give3 e zo⟩
theorem Ev.give1(E:Ev K H0 G0 G H σ Δ A)(j:Nat):∃G' A',Same G G'/\Ev K H0 G0 G' H σ (L3.give1 Δ j) A':=by
 unfold L3.give1;cases e:Δ[j]? with
 |none=>exact⟨G,A,Same.refl _,E⟩
 |some s=>
  cases s with
  |no=>exact⟨G,A,Same.refl _,by show Ev K H0 G0 G H σ (Δ.set j .no) A;rw [ab_8 e];exact E⟩
  |sh d=>exact⟨G,A,Same.refl _,by show Ev K H0 G0 G H σ (Δ.set j (.sh d)) A;rw [ab_8 e];exact E⟩
  |ow d=>
   have:=E.give2 e (t:=Tn.of d) rfl;rw [Tn.of_d] at this;exact this
  |tr t=>exact E.give2 e rfl
  |lk d=>exact⟨G,A,Same.refl _,by show Ev K H0 G0 G H σ (Δ.set j (.lk d)) A;rw [ab_8 e];exact E⟩
  |lt t=>exact⟨G,A,Same.refl _,by show Ev K H0 G0 G H σ (Δ.set j (.lt t)) A;rw [ab_8 e];exact E⟩
theorem Ev.gsome:∀(js:List Nat) {G:Hp} {Δ:SE} {A:OS},Ev K H0 G0 G H σ Δ A->∃G' A',Same G G'/\Ev K H0 G0 G' H σ (L3.gsome js Δ) A'
 | [],G,Δ,A,E=>⟨G,A,Same.refl _,E⟩
 |j::js,G,Δ,A,E=>by
  obtain⟨G1,A1,s1,E1⟩:=E.give1 j;obtain⟨G2,A2,s2,E2⟩:=Ev.gsome js E1;exact⟨G2,A2,s1.trans s2,E2⟩
end
def Fin(K:Frag)(EX:Bo)(H0:HB)(G0 G1:Hp)(D:Ends):Fl->Prop
 | .nx Δ=>∀σ G H O,Ev K H0 G0 G H σ Δ O->Same G1 G->D.nx σ H
 | .bk Δ=>∀σ G H O,Ev K H0 G0 G H σ Δ O->Same G1 G->D.bk σ H
 | .ct Δ=>∀σ G H O,Ev K H0 G0 G H σ Δ O->Same G1 G->D.ct σ H
 | .rt w=>WP K G0 H0.h w D.rt
 | .ex x Δ=>∀σ G H O,Ev K H0 G0 G H σ Δ O->Same G1 G->(EX σ).p x G H
 | .no=>False
def Fin.mono{EX:Bo}{H0:HB}{G0 G1 G2:Hp}{D:Ends}{r:Fl}(s:Same G1 G2)(h:Fin K EX H0 G0 G1 D r):Fin K EX H0 G0 G2 D r:=by
 cases r with
 |nx Δ=>exact λ σ G H O E q=>h σ G H O E (s.trans q)
 |bk Δ=>exact λ σ G H O E q=>h σ G H O E (s.trans q)
 |ct Δ=>exact λ σ G H O E q=>h σ G H O E (s.trans q)
 |rt w=>exact h
 |ex x Δ=>exact λ σ G H O E q=>h σ G H O E (s.trans q)
 |no=>exact h
def tS(K:Frag)(EX:Bo)(g:FS):TS:=λD σ H=>∃H0 G0 G Δ O,Ev K H0 G0 G H σ Δ O/\Fin K EX H0 G0 G D (g Δ)
abbrev SD(X:Cx)(EX:Bo)(st:Stmt)(g:FS):Prop:=PS X st (tS X.K EX g)
abbrev BD(X:Cx)(EX:Bo)(st:List Stmt)(g:FS):Prop:=PSs X st (tS X.K EX g)
section
variable{X:Cx}{EX:Bo}{st:Stmt}{sts:List Stmt}{g h:FS}{pos:Pos}{e:Expr}{f:FE}{p:FT}
def Bg:FS:=λ Δ=> .nx Δ
def Af(g h:FS):FS:=λ Δ=>match g Δ with
 | .nx Δ'=>h Δ'
 |r=>r
def Ct:BD X EX [] Bg:=PSs.imp dm_7 λD σ H ⟨H0,G0,G,Δ,O,E,q⟩=>q σ G H O E (Same.refl _)
def Aq(h1:SD X EX st g):BD X EX [st] g:=aq_0 h1
def Ar(h1:SD X EX st g)(h2:BD X EX sts h):BD X EX (st::sts) (Af g h):=
 PSs.imp (da_9 h1 h2) λD σ H ⟨H0,G0,G,Δ,O,E,q⟩=>by
  refine⟨H0,G0,G,Δ,O,E, ?_⟩;unfold Af at q;cases e:g Δ with
  |nx Δ'=>rw [e] at q;exact λ σ' G' H' O' E' sm=>⟨H0,G0,G',Δ',O',E',Fin.mono sm q⟩
  |bk Δ'=>rw [e] at q;exact q
  |ct Δ'=>rw [e] at q;exact q
  |rt w=>rw [e] at q;exact q
  |ex x Δ'=>rw [e] at q;exact q
  |no=>rw [e] at q;exact q
def exG(js:List Nat)(f:FE)(Δ:SE):Fl:=match f (Bb (gsome js Δ)) with
 | .ex x=> .ex x (gsome js Δ)
 |_=> .no
def exT(js:List Nat)(p:FT)(Δ:SE):Fl:=match p (Bb (gsome js Δ)) with
 | .ex x=> .ex x (gsome js Δ)
 |_=> .no
def ca_6{H0:HB}{G0 G G1 H:Hp}{σ:Sg}{Δ:SE}{O:OS}{D:Ends}{js:List Nat}{Q:VK}(E:Ev K H0 G0 G H σ Δ O)(sg:Same G1 G)(q:Fin K EX H0 G0 G1 D (exG js f Δ)):tD K EX f σ H Q:=by
 obtain⟨G',O',s',E'⟩:=E.gsome js;refine⟨G',Bb (gsome js Δ),E'.st.gh,E'.gsh, ?_⟩;unfold exG at q;cases e:f (Bb (gsome js Δ)) with
 |ok w=>rw [e] at q;exact q.elim
 |ex x=>rw [e] at q;exact q σ G' H O' E' (sg.trans s')
 |no=>rw [e] at q;exact q.elim
def de_2{H0:HB}{G0 G G1 H:Hp}{σ:Sg}{Δ:SE}{O:OS}{D:Ends}{js:List Nat}{Q:Bool->Hp->Prop}(E:Ev K H0 G0 G H σ Δ O)(sg:Same G1 G)(q:Fin K EX H0 G0 G1 D (exT js p Δ)):tDt K EX p σ H Q:=by
 obtain⟨G',O',s',E'⟩:=E.gsome js;refine⟨G',Bb (gsome js Δ),E'.st.gh,E'.gsh, ?_⟩;unfold exT at q;cases e:p (Bb (gsome js Δ)) with
 |ok w=>rw [e] at q;exact q.elim
 |ex x=>rw [e] at q;exact q σ G' H O' E' (sg.trans s')
 |no=>rw [e] at q;exact q.elim
def An(js:List Nat)(f:FE):FS:=λ Δ=>match f (As Δ) with
 | .ok w=> .rt w
 | .ex _=>exG js f Δ
 | .no=> .no
def Bj(js:List Nat)(he:ED X EX e f):SD X EX (.Return (some e) pos) (An js f):=
 PS.imp (ci_8 he) λD σ H ⟨H0,G0,G,Δ,O,E,q⟩=>by
  unfold An at q;cases e1:f (As Δ) with
  |ok w=>
   rw [e1] at q;exact⟨Fy G H O,As Δ,E.aH,E.gall,by rw [e1];exact WP.mono E.aStep q⟩
  |ex x=>rw [e1] at q;exact ca_6 E (Same.refl _) q
  |no=>rw [e1] at q;exact q.elim
def Cd(i:Nat):FS:=λ Δ=>match Δ[i]? with
 |some (.sh d)=> .rt (.sh d)
 |some (.ow d)=> .rt (.ow d)
 |some (.tr t)=> .rt (.tr t)
 |_=> .no
def r_6(i:Nat){x:Str}{pos pos':Pos}(hN:X.N[i]? =some x:=by rfl)(hv:Vis X.env.scope x:=by first|exact Or.inl rfl|exact Or.inr (Or.inl rfl)|exact Or.inr (Or.inr rfl))(hd:(x ==("__debug__" :Str))=false:=by decide)
  (hcd:(x ==("__classdict__" :Str))=false:=by decide):SD X EX (.Return (some (.Name x pos)) pos') (Cd i):=
 PS.imp (ci_8 (Fe hN hv hd hcd)) λD σ H ⟨H0,G0,G,Δ,O,E,q⟩=>by
  unfold Cd at q
  split at q
  ·rename_i d e;obtain⟨v,e1,r⟩:=E.sh i d e;exact⟨v,e1,(WP.mono (w:=.sh d) (Q:=D.rt) E.st q).use E.st.gh r⟩
  ·rename_i d e;obtain⟨v,e1,t⟩:=E.ow i _ _ e rfl;exact⟨v,e1,q v (O i) G H E.st (λa ha=>let⟨h1,h2,h3⟩:=E.out i a ha;⟨h2,h1,h3⟩) t⟩
  ·rename_i d e;obtain⟨v,e1,t⟩:=E.ow i _ _ e rfl;exact⟨v,e1,q v (O i) G H E.st (λa ha=>let⟨h1,h2,h3⟩:=E.out i a ha;⟨h2,h1,h3⟩) t⟩
  ·exact q.elim
def Dw(i:Nat)(Δ:SE):R W->Fl
 | .ok (.sh d)=> .nx (Δ.set i (.sh d))
 | .ok (.ow d)=> .nx (Δ.set i (.ow d))
 | .ok (.tr t)=> .nx (Δ.set i (.tr t))
 | .ex x=> .ex x Δ
 | .no=> .no
def Ah(i:Nat)(js:List Nat)(f:FE):FS:=λ Δ=>match f (Bb Δ) with
 | .ok (.sh d)=> .nx (Δ.set i (.sh d))
 | .ok (.ow d)=> .nx (Δ.set i (.ow d))
 | .ok (.tr t)=> .nx (Δ.set i (.tr t))
 | .ex x=> .ex x Δ
 | .no=>match f (As Δ) with
  | .ex _=>Dw i (gsome js Δ) (f (Bb (gsome js Δ)))
  | .no=> .no
  | .ok w=>if Bc w.d=true then .nx (Δ.set i (.sh w.d)) else Dw i (gsome js Δ) (f (Bb (gsome js Δ)))
def ba_9{H0:HB}{G0 G G1 H:Hp}{σ:Sg}{Δ:SE}{O:OS}{D:Ends}{i:Nat}(E:Ev K H0 G0 G H σ Δ O)(sg:Same G1 G)
  (q:Fin K EX H0 G0 G1 D (Dw i Δ (f (Bb Δ)))):tAsg (tD K EX f) (cp_3 i) D σ H:=by
 refine⟨G,Bb Δ,E.st.gh,E.gsh, ?_⟩;unfold Dw at q;cases e1:f (Bb Δ) with
 |ok w=>
  rw [e1] at q;cases w with
  |sh d=>exact λv G' H' st r=>q _ G' H' O ((E.grow st).put r) (sg.trans st.gg)
  |ow d=>
   intro v S G' H' st fr t;exact q _ G' H' _ ((E.grow st).putO (λa ha=>⟨E.st.hh.free (fr a ha).1,(fr a ha).2⟩) rfl (λ_ z=>by cases z) t λj a hj hs=>(E.out j a hj).2.2 (fr a hs).1) (sg.trans st.gg)
  |tr d=>
   intro v S G' H' st fr t;exact q _ G' H' _ ((E.grow st).putO (λa ha=>⟨E.st.hh.free (fr a ha).1,(fr a ha).2⟩) rfl (λ_ z=>by cases z) t λj a hj hs=>(E.out j a hj).2.2 (fr a hs).1) (sg.trans st.gg)
 |ex x=>rw [e1] at q;exact q σ G H O E sg
 |no=>rw [e1] at q;exact q
def ca_7{D:Ends}{σ:Sg}{i:Nat}{js:List Nat}(q:tS K EX (Ah i js f) D σ H):tAsg (tD K EX f) (cp_3 i) D σ H:=by
 obtain⟨H0,G0,G,Δ,O,E,q⟩:=q;unfold Ah at q;cases e1:f (Bb Δ) with
 |ok w=>
  rw [e1] at q;refine ba_9 E (Same.refl _) ?_;unfold Dw;rw [e1];cases w <;> exact q
 |ex x=>
  rw [e1] at q;refine ba_9 E (Same.refl _) ?_;unfold Dw;rw [e1];exact q
 |no=>
  rw [e1] at q;cases e2:f (As Δ) with
  |ok w=>
   simp only [e2] at q
   split at q
   ·rename_i fl;refine⟨Fy G H O,As Δ,E.aH,E.gall, ?_⟩;rw [e2];exact WP.intro λv G' H' st r=>q _ G H' O ((E.keep st.hh).put (r.ofFl fl)) (Same.refl _)
   ·obtain⟨G',O',sg,E'⟩:=E.gsome js;exact ba_9 E' sg q
  |ex x=>
   simp only [e2] at q;obtain⟨G',O',sg,E'⟩:=E.gsome js;exact ba_9 E' sg q
  |no=>simp only [e2] at q;exact q.elim
def Bk{i:Nat}(js:List Nat){x:Str}{pos':Pos}(he:ED X EX e f)(hN:X.N.Nodup)(hi:X.N[i]? =some x:=by rfl)(hx:Loc X.env.scope x:=by first|exact Or.inl rfl|exact Or.inr rfl)(hs:swapsWith e (some (.Name x pos')) pos.line X.env=pure false:=by rfl)
  (hf:X.fn x=true\/X.env.scope.names.lookup x=some .local:=by first|exact .inl rfl|exact .inr rfl|assumption):SD X EX (.Assign [.Name x pos'] e pos) (Ah i js f):=
 PS.imp (ci_9 hN hi hx he hs hf) λD σ H q=>ca_7 q
def Cj(js:List Nat)(f:FE):FS:=λ Δ=>match f (As Δ) with
 | .ok _=> .nx Δ
 | .ex _=>exG js f Δ
 | .no=> .no
def ak_3(js:List Nat)(he:ED X EX e f)(hs:swapsWith e none pos.line X.env=pure false:=by rfl):SD X EX (.Expr e pos) (Cj js f):=
 PS.imp (ad_5 he hs) λD σ H ⟨H0,G0,G,Δ,O,E,q⟩=>by
  unfold Cj at q;cases e1:f (As Δ) with
  |ok w=>
   rw [e1] at q;exact⟨Fy G H O,As Δ,E.aH,E.gall,by rw [e1];exact WP.intro λv G' H' st r=>q σ G H' O (E.keep st.hh) (Same.refl _)⟩
  |ex x=>rw [e1] at q;exact ca_6 E (Same.refl _) q
  |no=>rw [e1] at q;exact q.elim
def Bw(js:List Nat)(p:FT)(g h:FS):FS:=λ Δ=>match p (As Δ) with
 | .ok b=>if b=true then g Δ else h Δ
 | .ex _=>exT js p Δ
 | .no=> .no
def bm_9{H0:HB}{G0 G H:Hp}{σ:Sg}{Δ:SE}{O:OS}{D:Ends}{k:Bool->Fl}{P:Bool->Hp->Prop}{js:List Nat}(E:Ev K H0 G0 G H σ Δ O)
  {G1:Hp} (sg:Same G1 G) (q:Fin K EX H0 G0 G1 D (match p (As Δ) with| .ok b=>k b| .ex _=>exT js p Δ| .no=> .no)) (i:∀b H',p (As Δ)=.ok b->Ev K H0 G0 G H' σ Δ O->Fin K EX H0 G0 G1 D (k b)->P b H'):tDt K EX p σ H P:=by
 cases e1:p (As Δ) with
 |ok b=>rw [e1] at q;exact⟨Fy G H O,As Δ,E.aH,E.gall,by rw [e1];exact λG' H' st=>i b H' e1 (E.keep st.hh) q⟩
 |ex x=>rw [e1] at q;exact de_2 E sg q
 |no=>rw [e1] at q;exact q.elim
def Cn(js:List Nat){c:Expr}{as bs:List Stmt}(hc:TD X EX c p)(ha:BD X EX as g)(hb:BD X EX bs h):SD X EX (.If c as bs pos) (Bw js p g h):=
 PS.imp (ef_9 hc ha hb) λD σ H ⟨H0,G0,G,Δ,O,E,q⟩=>bm_9 (k:=λb=>if b=true then g Δ else h Δ) E (Same.refl _) q λb H' _ E' q'=>by
  cases b with
  |true=>rw [if_pos rfl];exact⟨H0,G0,G,Δ,O,E',q'⟩
  |false=>rw [if_neg Bool.false_ne_true];exact⟨H0,G0,G,Δ,O,E',q'⟩
def Gb(js:List Nat)(p:FT)(g:FS):Nat->FS
 |0=>λ_=> .no
 |n + 1=>λ Δ=>match p (As Δ) with
  | .ok b=>if b=true then(match g Δ with
    | .nx Δ'=>Gb js p g n Δ'
    | .ct Δ'=>Gb js p g n Δ'
    | .bk Δ'=> .nx Δ'
    |r=>r) else .nx Δ
  | .ex _=>exT js p Δ
  | .no=> .no
def ca_8(js:List Nat)(n:Nat){c:Expr}{body:List Stmt}(hp:PassesOwn (model X.prog X.w) X.A X.env X.xe)(hc:TD X EX c p)(hb:BD X EX body g):SD X EX (.While c body [] pos) (Gb js p g n):=
 PS.imp (db_0 hp hc hb) λD σ H ⟨H0,G0,G1,Δ,O,E,q⟩=>by
  refine⟨λm σ H=>∃G Δ O,Ev X.K H0 G0 G H σ Δ O/\Same G1 G/\Fin X.K EX H0 G0 G1 D (Gb js p g m Δ),⟨n,G1,Δ,O,E,Same.refl _,q⟩, ?_⟩
  rintro m σ H ⟨G,Δ,O,E,sg,q⟩
  cases m with
  |zero=>exact False.elim q
  |succ m=>
   refine bm_9 (k:=λb=>if b=true then(match g Δ with| .nx Δ'=>Gb js p g m Δ'| .ct Δ'=>Gb js p g m Δ'| .bk Δ'=> .nx Δ'|r=>r) else .nx Δ) E sg q λb H' _ E' q'=> ?_;cases b with
   |false=>rw [if_neg Bool.false_ne_true];exact q' σ G H' O E' sg
   |true=>
    rw [if_pos rfl];rw [if_pos rfl] at q';refine⟨λ σ' H'=>∃G Δ O,Ev X.K H0 G0 G H' σ' Δ O/\Same G1 G/\Fin X.K EX H0 G0 G1 D (Gb js p g m Δ),λ σ' H' w=>⟨m,Nat.lt_succ_self _,w⟩,H0,G0,G,Δ,O,E', ?_⟩;cases e1:g Δ with
    |nx Δ'=>rw [e1] at q';exact λ σ' G' H' O' E2 s2=>⟨G',Δ',O',E2,sg.trans s2,q'⟩
    |ct Δ'=>rw [e1] at q';exact λ σ' G' H' O' E2 s2=>⟨G',Δ',O',E2,sg.trans s2,q'⟩
    |bk Δ'=>rw [e1] at q';exact Fin.mono (r:=.nx Δ') sg q'
    |rt w=>rw [e1] at q';exact q'
    |ex x Δ'=>rw [e1] at q';exact Fin.mono (r:=.ex x Δ') sg q'
    |no=>rw [e1] at q';exact q'
end
def Az(n:Nat)(ds:List D):SE:=ds.map Sl.sh ++ List.replicate (n - ds.length) .no
def Ag(n:Nat)(g:FS)(ds:List D):R W:=match g (Az n ds) with
 | .nx _=> .ok (.sh .non)
 | .rt w=> .ok w
 | .ex x _=> .ex x
 |_=> .no
def de_3{G H:Hp}{ds:List D}{N:List Str}(g:Same G H)(r:HasL K G vs ds):Ev K ⟨H,λ_=>0⟩ G G H (Gd N vs) (Az N.length ds) (λ_ _=>False):=by
 refine⟨Step.refl g, ?_,λi d e=> ?_,λi z d e zo=> ?_,λ_ _ ha=>ha.elim,λ_ _ _ ha=>ha.elim,λi d e=> ?_,λi d e=> ?_⟩
 ·unfold Gd Az;simp only [List.length_append,List.length_map,List.length_replicate,r.length]
 ·unfold Az at e
  by_cases hi:i < ds.length
  ·rw [List.getElem?_append_left (by rw [List.length_map];exact hi),List.getElem?_map] at e;cases q:ds[i]? with
   |none=>rw [q] at e;cases e
   |some d'=>
    rw [q] at e;cases e;obtain⟨v,e1,h⟩:=r.get q;refine⟨v, ?_,h⟩;unfold Gd;rw [List.getElem?_append_left (by rw [List.length_map,r.length];exact hi),List.getElem?_map,e1];rfl
  ·rw [List.getElem?_append_right (by rw [List.length_map];omega),List.getElem?_replicate] at e
   split at e <;> cases e
 ·exfalso;unfold Az at e
  by_cases hi:i < ds.length
  ·rw [List.getElem?_append_left (by rw [List.length_map];exact hi),List.getElem?_map] at e;cases q:ds[i]? with
   |none=>rw [q] at e;cases e
   |some d'=>rw [q] at e;cases e;cases zo
  ·rw [List.getElem?_append_right (by rw [List.length_map];omega),List.getElem?_replicate] at e
   split at e
   ·cases e;cases zo
   ·cases e
 ·exfalso;unfold Az at e
  by_cases hi:i < ds.length
  ·rw [List.getElem?_append_left (by rw [List.length_map];exact hi),List.getElem?_map] at e;cases q:ds[i]? with
   |none=>rw [q] at e;cases e
   |some d'=>rw [q] at e;cases e
  ·rw [List.getElem?_append_right (by rw [List.length_map];omega),List.getElem?_replicate] at e
   split at e <;> cases e
 ·exfalso;unfold Az at e
  by_cases hi:i < ds.length
  ·rw [List.getElem?_append_left (by rw [List.length_map];exact hi),List.getElem?_map] at e;cases q:ds[i]? with
   |none=>rw [q] at e;cases e
   |some d'=>rw [q] at e;cases e
  ·rw [List.getElem?_append_right (by rw [List.length_map];omega),List.getElem?_replicate] at e
   split at e <;> cases e
def fn_D{c:Bool}{w:World}{x qual:Str}{st:Stmt}{f:Addr}{N ps:List Str}{k:Nat}{g:FS}(F:Fun K x qual st f fd)(S:FnScope N ps (Ck st))
  (zk:∀(zq:Value) (A:Around) (outer:List Env) (s:Shared) (H:Hp) (E:XK),RoomC c k (A.deeper (envOfC qual (Ck st) s.heap.objs.size f zq))->
   BD (cxN c P w K mg base N qual (Ck st) f zq A outer s H E) (λ_=>EXof K E) (Fc st) g):FnX P w K mg base c (k + 1) f fd ps (Bh K ps.length (Ag N.length g)):=by
 refine Fun.okX F S (λvs H Q E h=>h.1) λzq A outer s H vs Q E hr h=>⟨_,zk zq A outer s H E hr, ?_⟩;obtain⟨hl,G,ds,g0,r,o⟩:=h;refine⟨⟨H,λ_=>0⟩,G,G,_,_,de_3 g0 r, ?_⟩;unfold Ag at o;cases e:g (Az N.length ds) with
 |nx Δ=>rw [e] at o;exact λ σ G' H' O E' _=>(WP.mono (w:=.sh .non) (Q:=Q) E'.st o).use E'.st.gh .non
 |rt w=>rw [e] at o;exact o
 |ex x Δ=>rw [e] at o;exact λ σ G' H' O E' _=>(EXof K E).mono _ _ _ _ _ E'.st o
 |bk Δ=>rw [e] at o;exact o.elim
 |ct Δ=>rw [e] at o;exact o.elim
 |no=>rw [e] at o;exact o
def eb_2{c:Bool}{w:World}{x:Str}{st:Stmt}{f:Addr}{ps:List Str}{k:Nat}{Fn:List D->R W}(F:Fun K x x st f fd)(hm:mg x=some (.ref f))(hb:Binds K fd ps [])
  (ok:FnX P w K mg base c k f fd ps (Bh K ps.length Fn)):FnD P w K mg base c x k ps Fn:=⟨f,fd,ok,hm,F.kp,hb⟩
def de_4(x:Str):It:=⟨λi _=>i < x.cps.size,λi H v H'=>H'=H/\∃c,x.cps[i]? =some c/\v=.str ⟨#[c]⟩,λi _=>i=x.cps.size⟩
def cl_2{w:World}{tg:Expr}{it:Addr}{n:Nat}{Pv:Nat->Value->Prop}{St:Nat->Heap->Prop}{J:It}
  (W:∀A':Around,A'.handled=none->Walks P w A' it [it] [it] n Pv St)
  (ba:∀i h,St i h->∃o nm vs,h.get? it=some o/\o.cls=.type nm/\o.data=.fields vs/\ ["enumerate","zip","dict_itemiterator","dict_reverseitemiterator","odict_iterator","itertools.zip_longest","itertools.pairwise"].contains nm=false)
  (cq:∀(i:Nat) (h h':Heap),St i h->(∀b∈ [it],∀o,h.get? b=some o->h'.get? b=some o)->St i h') (cy:∀(A:Around) (i:Nat) (s:Shared) (Q E:Value->Shared->Prop),St i s.heap->Q (.ref it) s->wpAny (model P w) A (pyIter (.ref it)) Q E s)
  (hgo:∀i H,J.go i H->i < n) (hst:∀i H,J.stop i H->i=n) (hy:∀i H u,Pv i u->∃x,RelV x u/\J.yld i H x H):Turn P w K tg J [it] it St where
 mem:=by simp
 obj:=λi h st b hb=>by
  have e:b=it:=by simpa using hb
  subst e;obtain⟨o,nm,vs,e,c,d,_⟩:=ba i h st;exact⟨o,e,λv z=>by rw [d] at z;cases z⟩
 keep:=cq
 item:=by
  intro X hP hw hK hc i zd s σ H E I hf st hg;subst hP hw hK;obtain⟨f0,f1,f2,f3,f4,f5⟩:=hf it (by simp);refine(W X.A (I.ok.hd hc)).item i s _ _ (hgo i H hg) st λv h' tk hv st' kk=> ?_;have I1:Inv X zd σ H {s with heap:=h',toks:=tk}:=I.turned (λb o hb e=>kk b o (by simpa using hb) e) f0 f1 f3 f4 f5;obtain⟨x,rx,yx⟩:=hy i H v hv;obtain⟨o,nm,vs,e,c,d,hn⟩:=ba (i + 1) h' st';exact⟨v,rfl,bz_2 (s:={s with heap:=h',toks:=tk}) e c d hn ⟨x,H,I1,rx,yx,st',λb hb=>(hf b hb).1⟩⟩
 done:=by
  intro X hP hw hK hc i zd s σ H E I hf st hg;subst hP hw hK;obtain⟨f0,f1,f2,f3,f4,f5⟩:=hf it (by simp);obtain rfl:=hst i H hg;exact(W X.A (I.ok.hd hc)).done s _ _ st λh' tk kk=>⟨rfl,I.turned (λb o hb e=>kk b o (by simpa using hb) e) f0 f1 f3 f4 f5⟩
 self:=cy
def ItD(K:Frag)(G1:Hp)(J:It)(ds:List D):Prop:=∀G H,Same G1 G->Same G H->∀i,
 (∀d,ds[i]? =some d->J.go i H/\∀x H',J.yld i H x H'->∃G',Step G H G' H'/\Has K G' x d)/\(ds.length=i->J.stop i H)
abbrev FI:=DE->R (List D)
def tI(K:Frag)(EX:Bo)(fi:FI):TI:=λ σ H Q=>∃G δ,Same G H/\HasS K G σ δ/\match fi δ with
 | .ok ds=>∀J G' H',Step G H G' H'->ItD K G' J ds->Q J H'
 | .ex x=>(EX σ).p x G H
 | .no=>False
abbrev ID(X:Cx)(EX:Bo)(tg iter:Expr)(fi:FI):Prop:=PI X tg iter (tI X.K EX fi)
def PI.imp{tg e:Expr}{t t':TI}(h:PI X tg e t)(i:∀σ H Q,t' σ H Q->t σ H Q):PI X tg e t':=λzd s σ H Q I q=>h zd s σ H Q I (i σ H Q q)
section
variable{X:Cx}{EX:Bo}{tg e a b:Expr}{f:FE}{fa:FA}{p pos:Pos}
def tDa.seqI{G H:Hp}{σ:Sg}{δ:DE}{k:List D->R (List D)}{Q:It->Hp->Prop}{P:List V->Hp->Prop}(g:Same G H)(s:HasS K G σ δ)
  (h:match(fa δ).bind k with| .ok ds=>∀J G' H',Step G H G' H'->ItD K G' J ds->Q J H'| .ex x=>(EX σ).p x G H| .no=>False)
  (i:∀ds vs G' H',Step G H G' H'->HasL K G' vs ds->(match k ds with| .ok ds=>∀J G2 H2,Step G' H' G2 H2->ItD K G2 J ds->Q J H2| .ex x=>(EX σ).p x G' H'| .no=>False)->P vs H'):tDa K EX fa σ H P:=by
 refine⟨G,δ,g,s, ?_⟩;cases e:fa δ with
 |ok ds=>
  rw [e] at h;simp only [R.bind_ok] at h;refine λvs G' H' st r=>i ds vs G' H' st r ?_;cases e2:k ds with
  |ok ds'=>rw [e2] at h;exact λJ G2 H2 st2 it=>h J G2 H2 (st.trans st2) it
  |ex x=>rw [e2] at h;exact(EX σ).mono _ _ _ _ _ st h
  |no=>rw [e2] at h;exact h
 |ex x=>rw [e] at h;exact h
 |no=>rw [e] at h;exact h
def Ci(lo:Int)(n:Nat):List D:=(List.range n).map λ(k:Nat)=>D.int (lo + (k:Int))
def au_3{lo:Int}{n i:Nat}{d:D}(h:(Ci lo n)[i]? =some d):i < n/\d=.int (lo + (i:Int)):=by
 unfold Ci at h;rw [List.getElem?_map] at h
 by_cases hi:i < n
 ·rw [List.getElem?_range hi] at h;cases h;exact⟨hi,rfl⟩
 ·rw [List.getElem?_eq_none (by rw [List.length_range];omega)] at h;cases h
def k_8(lo:Int)(n:Nat):(Ci lo n).length=n:=by unfold Ci;rw [List.length_map,List.length_range]
def cw_3{G:Hp}(lo:Int)(n:Nat):ItD K G (Itr lo n) (Ci lo n):=λG' H _ g i=>by
 refine⟨λd e=> ?_,λe=> ?_⟩
 ·obtain⟨hi,rfl⟩:=au_3 e;refine⟨hi,λx H' y=> ?_⟩;obtain⟨e1,e2⟩:=y;subst e1 e2;exact⟨G',Step.refl g,.int _⟩
 ·rw [k_8] at e;exact Nat.le_of_eq e
def Ch:List D->R (List D)
 | [.int j]=>if j.natAbs < 4611686018427387904 then .ok (Ci 0 j.toNat) else .no
 |_=> .no
def Av(k:List D->R (List D))(fa:FA):FI:=λ δ=>(fa δ).bind k
def i_5(hm:X.mg "range" =none)(ha:AD X EX [a] fa)(hg:Gl X "range" :=by rfl)(hs:starEach [a] X.env= [(false,eval a X.env)]:=by rfl):ID X EX tg (.Call (.Name "range" p) [a] [] pos) (Av Ch fa):=
 PI.imp (cu_5 hg hm ha hs) λ σ H Q ⟨G,δ,g0,s0,o⟩=>tDa.seqI g0 s0 o λds vs G' H' st r o'=>by
  cases r with
  |nil=>exact False.elim o'
  |cons h t=>
   cases t with
   |cons _ _=>cases h <;> exact False.elim o'
   |nil=>
    cases h with
    |int j=>
     by_cases hc:j.natAbs < 4611686018427387904
     ·rw [show Ch [.int j]=.ok (Ci 0 j.toNat) from if_pos hc] at o';exact⟨j,rfl,by omega,by omega,o' _ G' H' (Step.refl st.gh) (cw_3 0 j.toNat)⟩
     ·rw [show Ch [.int j]=.no from if_neg hc] at o';exact o'.elim
    |_=>exact False.elim o'
def t_8(x:Str):List D:=x.cps.toList.map λc=> .str ⟨#[c]⟩
def Ff:D->R (List D)
 | .lst ds=> .ok ds
 | .tup ds=> .ok ds
 | .str x=> .ok (t_8 x)
 |_=> .no
def Cr(f:FE):FI:=λ δ=>(f δ).bind λw=>Ff w.d
def iAny(K:Frag)(tl:TE):TI:=λ σ H Q=>tl σ H λx H1=>
 (∃a,x=.ref a/\(∃xs,SqL K H1 a xs)/\Q (Itl K a) H1)\/(∃a,x=.ref a/\(∃xs,SqT K H1 a xs)/\Q (Itt K a) H1)\/(∃z,x=.str z/\Q (de_4 z) H1)
def eb_3{l:Expr}{tl:TE}(hl:PE X l tl):PI X tg l (iAny X.K tl):=by
 intro zd s σ H Q I h;refine Bi (hl zd s σ H _ I h) λv s1 ⟨x,H1,I1,r1,q1⟩=> ?_;rcases q1 with⟨a,e,⟨xs,hq⟩,q⟩|⟨a,e,⟨xs,hq⟩,q⟩|⟨z,e,q⟩
 ·subst e;cases r1;obtain⟨its,rv,p,hz⟩:=I1.list hq;refine wpAny_pyIter_list p.isList ?_;refine⟨s1.heap.objs.size,[s1.heap.objs.size],_,_,H1,rfl,I1.kept (t':=s1.toks) λb o e=>Heap.get?_push_of_some _ e,cu_4 a _,⟨_,Heap.get?_push_size _ rfl,rfl,rfl⟩,λb hb=> ?_,q⟩;have e:b=s1.heap.objs.size:=by simpa using hb
  subst e;exact I1.fpOk (Nat.le_refl _) (I1.hok.fresh (Nat.le_refl _))
 ·subst e;cases r1;obtain⟨its,rv,p,hz⟩:=I1.tuple hq;refine wpAny_pyIter_tuple (show s1.heap.IsTuple a its.toArray from p) ?_;refine⟨s1.heap.objs.size,[s1.heap.objs.size],_,_,H1,rfl,I1.kept (t':=s1.toks) λb o e=>Heap.get?_push_of_some _ e,cj_0 a _,⟨_,Heap.get?_push_size _ rfl,rfl,rfl⟩,λb hb=> ?_,q⟩;have e:b=s1.heap.objs.size:=by simpa using hb
  subst e;exact I1.fpOk (Nat.le_refl _) (I1.hok.fresh (Nat.le_refl _))
 ·subst e;obtain⟨t,rfl⟩:=r1;have fin:∀(nm:String) (St:Nat->Heap->Prop),(∀i h,St i h↔h.IsStrIter s1.heap.objs.size nm z t i)->(∀A':Around,A'.handled=none->Walks X.prog X.w A' s1.heap.objs.size [s1.heap.objs.size] [s1.heap.objs.size] z.cps.size (SignAt z) St)->
    ["enumerate","zip","dict_itemiterator","dict_reverseitemiterator","odict_iterator","itertools.zip_longest","itertools.pairwise"].contains nm=false->
    (∀(A:Around) (i:Nat) (s:Shared) (Q E:Value->Shared->Prop),s.heap.IsStrIter s1.heap.objs.size nm z t i->Q (.ref s1.heap.objs.size) s->wpAny (model X.prog X.w) A (pyIter (.ref s1.heap.objs.size)) Q E s)->
    PIE X zd σ tg Q (.ref s1.heap.objs.size) {s1 with heap:=s1.heap.push {cls:=.type nm,data:=.fields #[.str z t,.int 0 0]}}:=by
   intro nm St hS W hn hslf;refine⟨s1.heap.objs.size,[s1.heap.objs.size],St,de_4 z,H1,rfl,I1.kept (t':=s1.toks) λb o e=>Heap.get?_push_of_some _ e,
    cl_2 W (λi h st=> ?_) (λi h h' st k=> ?_) (λA i s Q E st h=>hslf A i s Q E ((hS _ _).mp st) h) (λi H g=>g) (λi H g=> ?_) (λi H u hu=> ?_),(hS _ _).mpr ⟨_,Heap.get?_push_size _ rfl,rfl,rfl⟩,λb hb=> ?_,q⟩
   ·obtain⟨o,ho,hc,hd⟩:=(hS _ _).mp st;exact⟨o,nm,_,ho,hc,hd,hn⟩
   ·obtain⟨o,ho,r⟩:=(hS _ _).mp st;exact(hS _ _).mpr ⟨o,k _ (by simp) o ho,r⟩
   ·exact g
   ·obtain⟨c,u',e1,e2⟩:=hu;subst e2;exact⟨.str ⟨#[c]⟩,⟨u',rfl⟩,rfl,c,e1,rfl⟩
   ·have e:b=s1.heap.objs.size:=by simpa using hb
    subst e;exact I1.fpOk (Nat.le_refl _) (I1.hok.fresh (Nat.le_refl _))
  cases ha:z.cps.all (· < 128)
  ·exact wpAny_pyIter_wide ha (fin "str_iterator" _ (λ_ _=>Iff.rfl) (λA' hA=>Walks.strWide hA _ z t) (by decide) λA i s Q E st h=>wpAny_pyIter_striter_wide st h)
  ·exact wpAny_pyIter_ascii ha (fin "str_ascii_iterator" _ (λ_ _=>Iff.rfl) (λA' hA=>Walks.strAscii hA _ z t) (by decide) λA i s Q E st h=>wpAny_pyIter_striter_ascii st h)
def de_5{G:Hp}{a:Addr}{ds:List D}(h:SqL K G a vs)(r:HasL K G vs ds):ItD K G (Itl K a) ds:=λG' H g1 g i=>by
 refine⟨λd e=> ?_,λe=> ?_⟩
 ·obtain⟨v,e1,hv⟩:=r.get e;refine⟨⟨vs,v,(g1.trans g).seq h,e1⟩,λx H' y=> ?_⟩;obtain⟨e2,y⟩:=y;subst e2;have e3:=y vs ((g1.trans g).seq h);rw [e1] at e3;cases e3;exact⟨G',Step.refl g,hv.mono g1⟩
 ·exact⟨vs,(g1.trans g).seq h,by rw [r.length];exact Nat.le_of_eq e⟩
def dp_4{G:Hp}{a:Addr}{ds:List D}(h:SqT K G a vs)(r:HasL K G vs ds):ItD K G (Itt K a) ds:=λG' H g1 g i=>by
 refine⟨λd e=> ?_,λe=> ?_⟩
 ·obtain⟨v,e1,hv⟩:=r.get e;refine⟨⟨vs,v,Same.tupS (g1.trans g) h,e1⟩,λx H' y=> ?_⟩;obtain⟨e2,y⟩:=y;subst e2;have e3:=y vs (Same.tupS (g1.trans g) h);rw [e1] at e3;cases e3;exact⟨G',Step.refl g,hv.mono g1⟩
 ·exact⟨vs,Same.tupS (g1.trans g) h,by rw [r.length];exact Nat.le_of_eq e⟩
def dp_5{G:Hp}(z:Str):ItD K G (de_4 z) (t_8 z):=λG' H g1 g i=>by
 refine⟨λd e=> ?_,λe=> ?_⟩
 ·unfold t_8 at e;rw [List.getElem?_map] at e;cases q:z.cps.toList[i]? with
  |none=>rw [q] at e;cases e
  |some c=>
   rw [q] at e;cases e;have hi:i < z.cps.size:=by
    have:=(List.getElem?_eq_some_iff.mp q).1;simpa using this
   refine⟨hi,λx H' y=> ?_⟩;obtain⟨e2,c',e3,e4⟩:=y;subst e2 e4;have:z.cps.toList[i]? =some c':=by simpa using e3
   rw [q] at this;cases this;exact⟨G',Step.refl g,.str _⟩
 ·unfold t_8 at e;rw [List.length_map] at e;show i=z.cps.size;simp at e;omega
def t_9(he:ED X EX e f):ID X EX tg e (Cr f):=
 PI.imp (eb_3 he) λ σ H Q ⟨G,δ,g0,s0,o⟩=>by
  refine⟨G,δ,g0,s0, ?_⟩;unfold Cr at o;cases e1:f δ with
  |ok w=>
   rw [e1] at o;simp only [R.bind_ok] at o;refine WP.intro λv G' H' st r=> ?_;revert r o;cases w.d with
   |lst ds=>
    intro o r;cases r with
    |lst h r=>exact .inl ⟨_,rfl,⟨_,st.gh.seq h⟩,o _ G' H' st (de_5 h r)⟩
   |tup ds=>
    intro o r;cases r with
    |tup h r=>exact .inr (.inl ⟨_,rfl,⟨_,Same.tupS st.gh h⟩,o _ G' H' st (dp_4 h r)⟩)
   |str z=>
    intro o r;cases r;exact .inr (.inr ⟨z,rfl,o _ G' H' st (dp_5 z)⟩)
   |_=>intro o _;exact False.elim o
  |ex x=>rw [e1] at o;exact o
  |no=>rw [e1] at o;exact o
end
abbrev FG:=D->SE->R SE
def tG(K:Frag)(EX:Bo)(fg:FG):TG:=λv σ H Q=>∃H0 G0 G Δ O d,Ev K H0 G0 G H σ Δ O/\Has K G v d/\match fg d Δ with
 | .ok Δ'=>∀σ' G' H' O',Ev K H0 G0 G' H' σ' Δ' O'->Same G G'->Q σ' H'
 | .ex _=>False
 | .no=>False
def PG.imp{tg:Expr}{t t':TG}(h:PG X tg t)(i:∀v σ H Q,t' v σ H Q->t v σ H Q):PG X tg t':=λzd s σ H v u Q I r q=>h zd s σ H v u Q I r (i v σ H Q q)
abbrev GD(X:Cx)(EX:Bo)(tg:Expr)(fg:FG):Prop:=PG X tg (tG X.K EX fg)
section
variable{X:Cx}{EX:Bo}{pos:Pos}
def gV(i:Nat):FG:=λd Δ=> .ok (Δ.set i (.sh d))
def r_7{i:Nat}{x:Str}(hN:X.N.Nodup)(hi:X.N[i]? =some x:=by rfl)(hx:Loc X.env.scope x:=by first|exact Or.inl rfl|exact Or.inr rfl)
  (hf:X.fn x=true\/X.env.scope.names.lookup x=some .local:=by first|exact .inl rfl|exact .inr rfl|assumption):GD X EX (.Name x pos) (gV i):=
 PG.imp (ba_7 hN hi hx hf) λv σ H Q ⟨H0,G0,G,Δ,O,d,E,r,q⟩=>q _ G H O (E.put r) (Same.refl _)
def Fj(i j:Nat):FG:=λd Δ=>match d with
 | .tup [a,b]=> .ok ((Δ.set i (.sh a)).set j (.sh b))
 |_=> .no
def ah_8{i j k:Nat}{x y:Str}{p1 p2:Pos}(hc:X.calm=true)(hN:X.N.Nodup)(hi:X.N[i]? =some x:=by rfl)(hj:X.N[j]? =some y:=by rfl)(hx:Loc X.env.scope x:=by first|exact Or.inl rfl|exact Or.inr rfl)(hy:Loc X.env.scope y:=by first|exact Or.inl rfl|exact Or.inr rfl)
  (hf:X.fn x=true\/X.env.scope.names.lookup x=some .local:=by first|exact .inl rfl|exact .inr rfl|assumption) (hf2:X.fn y=true\/X.env.scope.names.lookup y=some .local:=by first|exact .inl rfl|exact .inr rfl|assumption)
  (hn:(assignEach [.Name x p1,.Name y p2] X.env).length=2:=by rfl) (hst:(assignEach [.Name x p1,.Name y p2] X.env).findIdx? (·.1)=none:=by rfl)
  (hs:(assignEach [.Name x p1,.Name y p2] X.env).map (·.2)=assign (.Name x p1) X.env::(assignEach [.Name y p2] X.env).map (·.2):=by rfl) (hs2:(assignEach [.Name y p2] X.env).map (·.2)=assign (.Name y p2) X.env::(assignEach [] X.env).map (·.2):=by rfl):
  GD X EX (.Tuple [.Name x p1,.Name y p2] k pos) (Fj i j):=
 PG.imp (dy_4 hc (bz_1 (ba_7 hN hi hx hf) (bz_1 (ba_7 hN hj hy hf2) dm_8 hs2) hs) hn hst) λv σ H Q ⟨H0,G0,G,Δ,O,d,E,r,q⟩=>by
  cases r with
  |tup h r=>
   cases r with
   |nil=>exact False.elim q
   |cons r1 r=>
    cases r with
    |nil=>exact False.elim q
    |cons r2 r=>
     cases r with
     |nil=>exact⟨_,_,rfl,Same.tupS E.st.gh h,rfl,_,_,rfl,_,_,rfl,rfl,q _ G H O ((E.put r1).put r2) (Same.refl _)⟩
     |cons _ _=>exact False.elim q
  |_=>exact False.elim q
def Ey(fg:FG)(g:FS):List D->FS
 | []=>λ Δ=> .nx Δ
 |d::ds=>λ Δ=>match fg d Δ with
  | .ok Δ1=>(match g Δ1 with
   | .nx Δ2=>Ey fg g ds Δ2
   | .ct Δ2=>Ey fg g ds Δ2
   | .bk Δ2=> .nx Δ2
   |r=>r)
  | .ex _=> .no
  | .no=> .no
def Cb(js:List Nat)(fi:FI)(fg:FG)(g:FS):FS:=λ Δ=>match fi (Bb Δ) with
 | .ok ds=>Ey fg g ds Δ
 | .ex x=> .ex x Δ
 | .no=>match fi (Bb (gsome js Δ)) with
  | .ok ds=>Ey fg g ds (gsome js Δ)
  | .ex x=> .ex x (gsome js Δ)
  | .no=> .no
def ab_9{α:Type}{l:List α}{i:Nat}(h:i < l.length):∃x,l[i]? =some x/\l.drop i=x::l.drop (i + 1):=⟨l[i],by simp [h],List.drop_eq_getElem_cons h⟩
def bn_0{fg:FG}{g:FS}{H0:HB}{G0 G1 H1:Hp}{J:It}{ds:List D}{Δ:SE}{O:OS}{σ:Sg}{D:Ends}(E:Ev K H0 G0 G1 H1 σ Δ O)(it:ItD K G1 J ds)(q:Fin K EX H0 G0 G1 D (Ey fg g ds Δ)):
  ∃W:Nat->Nat->Sg->Hp->Prop,(∃m,W 0 m σ H1)/\∀i m σ H,W i m σ H->
   (J.stop i H/\D.nx σ H)\/(J.go i H/\∃N:Sg->Hp->Prop,(∀σ' H',N σ' H'->∃m',m' < m/\W (i + 1) m' σ' H')/\∀x H',J.yld i H x H'->tG K EX fg x σ H' λ σ2 H2=>tS K EX g {D with nx:=N,ct:=N,bk:=D.nx} σ2 H2):=by
 refine⟨λi m σ H=>m=ds.length - i/\i<=ds.length/\∃G Δ O,Ev K H0 G0 G H σ Δ O/\Same G1 G/\Fin K EX H0 G0 G1 D (Ey fg g (ds.drop i) Δ),⟨ds.length,by simp,Nat.zero_le _,G1,Δ,O,E,Same.refl _,q⟩, ?_⟩
 rintro i m σ H ⟨rfl,hi,G,Δ,O,E,sg,q⟩
 obtain⟨i1,i2⟩:=it G H sg E.st.gh i
 by_cases hlt:i < ds.length
 ·obtain⟨d,e1,e2⟩:=ab_9 hlt;obtain⟨go,yl⟩:=i1 d e1;refine .inr ⟨go,λ σ' H'=>∃G Δ O,Ev K H0 G0 G H' σ' Δ O/\Same G1 G/\Fin K EX H0 G0 G1 D (Ey fg g (ds.drop (i + 1)) Δ),λ σ' H' w=>⟨ds.length - (i + 1),by omega,rfl,hlt,w⟩,λx H' y=> ?_⟩;obtain⟨G',st,hx⟩:=yl x H' y;rw [e2] at q;refine⟨H0,G0,G',Δ,O,d,E.grow st,hx, ?_⟩;have q':Fin K EX H0 G0 G1 D (match fg d Δ with
   | .ok Δ1=>(match g Δ1 with
    | .nx Δ2=>Ey fg g (ds.drop (i + 1)) Δ2
    | .ct Δ2=>Ey fg g (ds.drop (i + 1)) Δ2
    | .bk Δ2=> .nx Δ2
    |r=>r)
   | .ex _=> .no
   | .no=> .no):=q
  cases e3:fg d Δ with
  |ok Δ1=>
   rw [e3] at q';intro σ2 G2 H2 O2 E2 s2;have s12:Same G1 G2:=sg.trans (st.gg.trans s2);refine⟨H0,G0,G2,Δ1,O2,E2, ?_⟩;cases e4:g Δ1 with
   |nx Δ2=>simp only [e4] at q';exact λ σ3 G3 H3 O3 E3 s3=>⟨G3,Δ2,O3,E3,s12.trans s3,q'⟩
   |ct Δ2=>simp only [e4] at q';exact λ σ3 G3 H3 O3 E3 s3=>⟨G3,Δ2,O3,E3,s12.trans s3,q'⟩
   |bk Δ2=>simp only [e4] at q';exact λ σ3 G3 H3 O3 E3 s3=>q' σ3 G3 H3 O3 E3 (s12.trans s3)
   |rt w=>simp only [e4] at q';exact q'
   |ex x Δ2=>simp only [e4] at q';exact λ σ3 G3 H3 O3 E3 s3=>q' σ3 G3 H3 O3 E3 (s12.trans s3)
   |no=>simp only [e4] at q';exact q'
  |ex x=>rw [e3] at q';exact q'
  |no=>rw [e3] at q';exact q'
 ·have e:ds.length=i:=by omega
  refine .inl ⟨i2 e, ?_⟩;rw [List.drop_eq_nil_of_le (by omega)] at q;exact q σ G H O E sg
def Gq{tg iter:Expr}{body:List Stmt}{fi:FI}{fg:FG}{g:FS}(js:List Nat)(hp:PassesOwn (model X.prog X.w) X.A X.env X.xe)(hc:X.calm=true)(hi:ID X EX tg iter fi)(hg:GD X EX tg fg)(hb:BD X EX body g)
  (hs:∀x,foldedSetIterable iter X.env x=pure x:=by intro _;rfl):SD X EX (.For tg iter body [] pos) (Cb js fi fg g):=
 PS.imp (dy_8 hp hc hi hg hb hs) λD σ H ⟨H0,G0,G,Δ,O,E,q⟩=>by
  unfold Cb at q;cases e1:fi (Bb Δ) with
  |ok ds=>
   rw [e1] at q;refine⟨G,Bb Δ,E.st.gh,E.gsh, ?_⟩;rw [e1];exact λJ G' H' st it=>bn_0 (E.grow st) it (Fin.mono st.gg q)
  |ex x=>
   rw [e1] at q;exact⟨G,Bb Δ,E.st.gh,E.gsh,by rw [e1];exact q σ G H O E (Same.refl _)⟩
  |no=>
   rw [e1] at q;obtain⟨G1,O1,sg,E1⟩:=E.gsome js;refine⟨G1,Bb (gsome js Δ),E1.st.gh,E1.gsh, ?_⟩;cases e2:fi (Bb (gsome js Δ)) with
   |ok ds=>
    simp only [e2] at q;exact λJ G' H' st it=>bn_0 (E1.grow st) it (Fin.mono (sg.trans st.gg) q)
   |ex x=>simp only [e2] at q;exact q σ G1 H O1 E1 sg
   |no=>simp only [e2] at q;exact q
def Ef(i:Nat)(f:FE):FS:=λ Δ=>match Δ[i]? with
 |some (.ow (.lst ds))=>if ds.length < 16777216 then(match f (Bb Δ) with
   | .ok w=> .nx (Δ.set i (.ow (.lst (ds ++ [w.d]))))
   | .ex x=> .ex x Δ
   | .no=>match f (As Δ) with
    | .ok w=>if Bc w.d=true then .nx (Δ.set i (.ow (.lst (ds ++ [w.d])))) else .no
    |_=> .no) else .no
 |_=> .no
def bd_8{i:Nat}{x:Str}{e:Expr}{f:FE}{p1 zh zf:Pos}(he:ED X EX e f)(hN:X.N[i]? =some x:=by rfl)(hv:Vis X.env.scope x:=by first|exact Or.inl rfl|exact Or.inr (Or.inl rfl)|exact Or.inr (Or.inr rfl))(hd:(x ==("__debug__" :Str))=false:=by decide)
  (hcd:(x ==("__classdict__" :Str))=false:=by decide) (hsw:swapsWith (.Call (.Attribute (.Name x p1) "append" zh) [e] [] zf) none pos.line X.env=pure false:=by rfl)
  (ae:attributeBase (.Name x p1) "append" X.env (eval (.Name x p1) X.env)=eval (.Name x p1) X.env:=by rfl)
  (au:((backTo zf (starEach [e] X.env)).all (λx=> !x.1) && (backToKw zf (keywordEach [] X.env)).all (λx=>x.1.isSome)
   && decide ([e].length + ([]:List Keyword).length + (if([]:List Keyword).isEmpty then 0 else 1) < 30))=true:=by rfl)
  (aa:(zh.endLine ==zf.line)=true:=by rfl) (hs:starEach [e] X.env=(false,eval e X.env)::starEach [] X.env:=by rfl) (af:(backTo zf (starEach [] X.env)).any (·.1)=false:=by rfl):
  SD X EX (.Expr (.Call (.Attribute (.Name x p1) "append" zh) [e] [] zf) pos) (Ef i f):=
 PS.imp (ad_5 (cp_9 PySem.F.plainAttrs_list PySem.F.slot_list_append PySem.F.type_list_append at_9 (Fe hN hv hd hcd) (k_0 he w_4 hs) ae au aa hs af) hsw) λD σ H ⟨H0,G0,G,Δ,O,E,q⟩=>by
  unfold Ef at q
  split at q
  ·rename_i ds e1
   split at q
   ·rename_i hz;obtain⟨v0,s1,t⟩:=E.ow i _ _ e1 rfl;obtain⟨a,vs,rfl,m,hH,rl⟩:=t.list_of
    ·skip
     refine⟨.ref a,s1,.inl ⟨rfl,_,SqL.of hH⟩, ?_⟩;have fin:∀{G' H':Hp} {v:V} {d:L3.D},Ev X.K H0 G0 G' H' σ Δ O->Same G G'->H' a=some (.lst vs)->HasL X.K G' vs ds->Has X.K G' v d->Fin X.K EX H0 G0 G D (.nx (Δ.set i (.ow (.lst (ds ++ [d])))))->
       cq_0 (.ref a) [v] H' λ_ H1=>D.nx σ H1:=λ{G' H' v d} E' sg hH' r' hv' q'=>
      ⟨a,vs,v,rfl,rfl,hH',by rw [r'.length,sizeLine_eq];exact hz,q' σ G' _ _ (E'.writeL s1 m (r'.append (.cons hv' .nil))) sg⟩
     cases e2:f (Bb Δ) with
     |ok w=>
      simp only [e2] at q;refine⟨G,Bb Δ,E.st.gh,E.gsh, ?_⟩;rw [e2];exact WP.intro λv G' H' st r=>fin (E.grow st) st.gg (st.hh _ _ hH) (rl.mono st.gg) r q
     |ex x=>
      simp only [e2] at q;exact⟨G,Bb Δ,E.st.gh,E.gsh,by rw [e2];exact q σ G H O E (Same.refl _)⟩
     |no=>
      simp only [e2] at q;refine⟨Fy G H O,As Δ,E.aH,E.gall, ?_⟩;cases e3:f (As Δ) with
      |ok w=>
       simp only [e3] at q
       split at q
       ·rename_i fl;exact WP.intro λv G' H' st r=>fin (E.keep st.hh) (Same.refl _) (st.hh _ _ hH) rl (r.ofFl fl) q
       ·exact q.elim
      |ex x=>simp only [e3] at q;exact q.elim
      |no=>simp only [e3] at q;exact q
   ·exact q.elim
  ·exact q.elim
end
def Gi(X:Cx)(scope:Scope)(cl:List (Str×Addr))(N':List Str)(C:Addr)(s0:Shared)(H0:Hp)(fp:List Addr)(pn:List (Addr×Obj)):Cx where
 prog:=X.prog
 w:=X.w
 K:=X.K
 mg:=X.mg
 base:=X.base
 A:=X.A
 N:=N'
 s₀:=s0
 H₀:=H0
 env:=compEnvC scope cl C X.env
 outer:=X.stack
 stack:=X.stack
 ex:=fp
 fn:=λ_=>false
 calm:=X.calm
 pn:=pn
 xe:=λ_ _=>False
abbrev FGc:=D->DE->R DE
def tGc(K:Frag)(EX:Bo)(fg:FGc):TG:=λv σ H Q=>∃G δ d,Same G H/\HasS K G σ δ/\Has K G v d/\match fg d δ with
 | .ok δ'=>∀σ',HasS K G σ' δ'->HasS K G σ' δ->Q σ' H
 | .ex x=>(EX σ).p x G H
 | .no=>False
abbrev GC(X:Cx)(EX:Bo)(tg:Expr)(fg:FGc):Prop:=PG X tg (tGc X.K EX fg)
def CTs(X:Cx)(EX:Bo)(ifs:List Expr)(p:FT):Prop:=
 ∀(zd:List (Addr×Obj)) (s:Shared) (σ:Sg) (H:Hp) (Q:Bool->Hp->Prop),Inv X zd σ H s->tDt X.K EX p σ H Q->
  wpAny (model X.prog X.w) X.A (forIn ifs true λc r=>if r=true then do let ok<-isTrue c X.env (eval c X.env);pure (ForInStep.yield ok) else pure (ForInStep.yield r)) (TP X zd σ Q) X.xe s
section
variable{X:Cx}{EX:Bo}{pos:Pos}
def gC(i:Nat):FGc:=λd δ=>match δ[i]? with
 |some none=> .ok (δ.set i (some d))
 |_=> .no
def HasS.put{G:Hp}{σ:Sg}{δ:DE}{d:D}(h:HasS K G σ δ)(r:Has K G v d)(i:Nat):HasS K G (σ.set i (some v)) (δ.set i (some d)):=by
 refine⟨by rw [List.length_set,List.length_set];exact h.len,λj d' e=> ?_⟩;rcases Gj e with⟨rfl,q⟩|⟨n,q⟩
 ·cases q;have hlt:i < δ.length:=by
   by_cases hh:i < δ.length
   ·exact hh
   ·rw [List.getElem?_eq_none (by rw [List.length_set];omega)] at e;cases e
  exact⟨v,by rw [List.getElem?_set_self (by rw [h.len];exact hlt)],r⟩
 ·obtain⟨v',e1,r'⟩:=h.get j d' q;exact⟨v',by rw [List.getElem?_set_ne n];exact e1,r'⟩
def dp_6{i:Nat}{x:Str}(hN:X.N.Nodup)(hi:X.N[i]? =some x:=by rfl)(hx:Loc X.env.scope x:=by first|exact Or.inl rfl|exact Or.inr rfl)
  (hf:X.fn x=true\/X.env.scope.names.lookup x=some .local:=by first|exact .inl rfl|exact .inr rfl|assumption):GC X EX (.Name x pos) (gC i):=
 PG.imp (ba_7 hN hi hx hf) λv σ H Q ⟨G,δ,d,g,s,r,q⟩=>by
  unfold gC at q;cases e:δ[i]? with
  |none=>rw [e] at q;exact q.elim
  |some o=>
   rw [e] at q;cases o with
   |some _=>exact q.elim
   |none=>
    refine q _ (s.put r i) ⟨by rw [List.length_set];exact s.len,λj d' e'=> ?_⟩;obtain⟨v',e1,r'⟩:=s.get j d' e';refine⟨v', ?_,r'⟩;rw [List.getElem?_set_ne]
    ·exact e1
    ·rintro rfl
     rw [e] at e';cases e'
def p_3:CTs X EX [] (λ_=> .ok true):=λzd s σ H Q I ⟨G,δ,g,h,q⟩=>wpAny_tests_nil ⟨H,I,q G H (Step.refl g)⟩
def cl_3{c:Expr}{p:FT}(h:TD X EX c p):CTs X EX [c] p:=λzd s σ H Q I q=>wpAny_tests_one (h zd s σ H Q I q)
def Ee(fg:FGc)(p:FT)(f:FE)(δ:DE):List D->R (List D)
 | []=> .ok []
 |d::ds=>(fg d δ).bind λ δ1=>(p δ1).bind λb=>if b=true then(f δ1).bind λw=>(Ee fg p f δ ds).bind λrs=> .ok (w.d::rs) else Ee fg p f δ ds
def R.calm{α:Type}:R α->R α
 | .ok w=> .ok w
 |_=> .no
@[simp] theorem R.calm_ok{α:Type}(a:α):(R.ok a).calm=.ok a:=rfl
@[simp] theorem R.calm_ex{α:Type}(x:Xn):(R.ex x:R α).calm=.no:=rfl
@[simp] theorem R.calm_no{α:Type}:(R.no:R α).calm=.no:=rfl
def Bt(m:Nat)(fi:FI)(fg:FGc)(p:FT)(f:FE):FE:=λ δ=>((fi δ).bind λds=>if ds.length<=16777216 then(Ee fg p f (δ ++ List.replicate m none) ds).bind λrs=> .ok (.ow (.lst rs)) else .no).calm
def R.calm_never{α:Type}{r:R α}{x:Xn}(h:r.calm=.ex x):False:=by
 cases r <;> cases h
def ca_9{m:Nat}{fi:FI}{fg:FGc}{p:FT}{f:FE}{δ:DE}{x:Xn}(h:Bt m fi fg p f δ=.ex x):False:=R.calm_never h
@[reducible] def eb_4(prog:Program)(w:World)(A:Around)(env:Env)(tg elt:Expr)(ifs:List Expr)(it zp:Value)(bad:Value->Shared->Prop)(fin more:Shared->Prop):Option Value->Shared->Prop
 |none=>fin
 |some v=>wpAny (model prog w) A (letOwnedTupleGo tg it v) (λ_=>wpAny (model prog w) A (assign tg env v) (λ_=>
   wpAny (model prog w) A (forIn ifs true λc r=>if r=true then do let ok<-isTrue c env (eval c env);pure (ForInStep.yield ok) else pure (ForInStep.yield r)) (λok=>
    if ok=true then wpAny (model prog w) A (eval elt env) (λx=>wpAny (model prog w) A (call (.builtin "list.append") [zp,x]) (λ_=>more) bad) bad else more) bad) bad) bad
def cl_4{prog:Program}{w:World}{A:Around}{R:Result->Shared->Prop}{s:Shared}{elt target iter:Expr}{ifs:List Expr}{scope:Scope}{it zp:Value}{env:Env}(I:Nat->Shared->Prop)
  (turn:∀n s,I n s->wpAny (model prog w) A (pyNext it) (eb_4 prog w A env target elt ifs it zp (notedBy (model prog w) A env λe=>R (.error e)) (R (.ok .next)) λs'=>∃m,m < n/\I m s') (notedBy (model prog w) A env λe=>R (.error e)) s)
  (n:Nat) (h:I n s):codeAny (model prog w) A (.compLoop (.ListComp elt [⟨target,iter,ifs,0⟩] scope pos) 0 it zp env) R s:=by
 refine codeAny_loop rfl I (λk t hk=>wpAny_noted (env:=env) (m:=compTurn (.ListComp elt [⟨target,iter,ifs,0⟩] scope pos) 0 it zp env) (compTurn_list .. ▸ ?_)) n h;refine wpAny_bind (wpAny_standAt (wpAny_bind (Bi (turn k t hk) ?_)))
 rintro (_|v) t1 g1
 ·exact wpAny_pure g1
 refine wpAny_bind (Bi g1 λ_ t2 g2=>wpAny_bind (Bi g2 λ_ t3 g3=>wpAny_bind (Bi g3 ?_)))
 rintro (_|_) t4 g4
 ·exact wpAny_pure ⟨rfl,g4⟩
 ·exact wpAny_bind (wpAny_bind (Bi g4 λ_ t5 g5=>wpAny_bind (Bi g5 λ_ t6 g6=>wpAny_pure (wpAny_pure ⟨rfl,g6⟩))))
structure CompN(X:Cx)(scope:Scope)(cl:List (Str×Addr))(N':List Str):Prop where
 clos:closureFor scope X.env=pure cl
 cell:∀y∈scope.names,y.2≠ .cell
 kind:scope.kind=.function
 names:∀y∈scope.names,y.2=.local->scope.names.lookup y.1=some .local
 sub:∀x c,cl.lookup x=some c->X.env.cells.lookup x=some c
 has:∀x,((relabel scope X.env).names.lookup x=some .cell\/(relabel scope X.env).names.lookup x=some .free)->∃c,cl.lookup x=some c
 old:∀(i:Nat) (x:Str),N'[i]? =some x->i < X.N.length->Vis (relabel scope X.env) x->X.N[i]? =some x/\(X.env.scope.names.lookup x=some .cell\/X.env.scope.names.lookup x=some .free)/\(∃c,cl.lookup x=some c)/\((relabel scope X.env).names.lookup x=some .cell\/(relabel scope X.env).names.lookup x=some .free)
def Dp(cells:List (Str×Addr)):List (Str×NameKind)->List (Str×Addr)->List (Str×Addr)
 | [],zp=>zp
 |(x,k)::r,zp=>Dp cells r (if k=.free then(x,(cells.lookup x).getD 0)::zp else zp)
def bj_4{scope:Scope}{env:Env}(h:∀p∈scope.names,p.2=.free->∃c,env.cells.lookup p.1=some c):closureFor scope env=pure (Dp env.cells scope.names []):=by
 have all:∀(names:List (Str×NameKind)) (zp:List (Str×Addr)),(∀p∈names,p.2=.free->∃c,env.cells.lookup p.1=some c)->
   (forIn names zp λ(x:Str×NameKind) (r:List (Str×Addr))=>if(x.2 == .free)=true then do let a<-cellOf env x.1;pure (ForInStep.yield ((x.1,a)::r)) else pure (ForInStep.yield r):Sem (List (Str×Addr)))=pure (Dp env.cells names zp):=by
  intro names
  induction names with
  |nil=>intro zp _;rfl
  |cons p r ih=>
   intro zp hp;obtain⟨x,k⟩:=p;rw [List.forIn_cons]
   by_cases hk:k=.free
   ·subst hk;obtain⟨c,e⟩:=hp (x,.free) List.mem_cons_self rfl;have e1:cellOf env x=pure c:=by unfold cellOf;rw [show env.cells.lookup x=some c from e]
    simp only [beq_self_eq_true,if_true,e1,pure_bind];rw [ih _ λq hq=>hp q (List.mem_cons_of_mem _ hq)];show _=pure (Dp env.cells r (if NameKind.free=.free then(x,(env.cells.lookup x).getD 0)::zp else zp));rw [if_pos rfl,show env.cells.lookup x=some c from e];rfl
   ·have hb:(k ==NameKind.free)=false:=by simpa using hk
    simp only [hb,Bool.false_eq_true,if_false,pure_bind];rw [ih _ λq hq=>hp q (List.mem_cons_of_mem _ hq)];show _=pure (Dp env.cells r (if k=.free then(x,(env.cells.lookup x).getD 0)::zp else zp));rw [if_neg hk]
 unfold closureFor;have:=all scope.names [] h;simpa using this
theorem cb_0{cells:List (Str×Addr)}{q:Str×Addr}:∀{names:List (Str×NameKind)} {zp:List (Str×Addr)},q∈Dp cells names zp->q∈zp\/((q.1,NameKind.free)∈names/\q.2=(cells.lookup q.1).getD 0)
 | [],zp,h=> .inl h
 |(x,k)::r,zp,h=>by
  rcases cb_0 (names:=r) h with h|⟨h1,h2⟩
  ·split at h
   ·rename_i hk;rcases List.mem_cons.mp h with rfl|h
    ·exact .inr ⟨by rw [hk];exact List.mem_cons_self,rfl⟩
    ·exact .inl h
   ·exact .inl h
  ·exact .inr ⟨List.mem_cons_of_mem _ h1,h2⟩
theorem cb_1{cells:List (Str×Addr)}{x:Str}:∀{names:List (Str×NameKind)} {zp:List (Str×Addr)},(zp.lookup x).isSome=true->((Dp cells names zp).lookup x).isSome=true
 | [],zp,h=>h
 |(y,k)::r,zp,h=>by
  refine cb_1 (names:=r) ?_
  split
  ·rw [List.lookup_cons]
   split
   ·rfl
   ·exact h
  ·exact h
theorem cb_2{cells:List (Str×Addr)}{x:Str}:∀{names:List (Str×NameKind)} {zp:List (Str×Addr)},(x,NameKind.free)∈names->((Dp cells names zp).lookup x).isSome=true
 |(y,k)::r,zp,h=>by
  rcases List.mem_cons.mp h with h|h
  ·cases h;refine cb_1 (names:=r) ?_;rw [if_pos rfl,List.lookup_cons];simp
  ·exact cb_2 (names:=r) h
theorem x_6{env:Env}:∀(names:List (Str×NameKind)) (x:Str),
  (names.map λ(n,k)=>if(k ==NameKind.free && env.scope.kind == .function && env.kindOf n ==some .cell) then(n,NameKind.cell) else(n,k)).lookup x=(names.lookup x).map λk=>if(k ==NameKind.free && env.scope.kind == .function && env.kindOf x ==some .cell)=true then NameKind.cell else k
 | [],x=>rfl
 |(n,k)::r,x=>by
  have ih:=x_6 (env:=env) r x;show List.lookup x ((if(k ==NameKind.free && env.scope.kind == .function && env.kindOf n ==some .cell)=true then(n,NameKind.cell) else(n,k))::_)=_;cases hx:x ==n with
  |true=>
   have e:x=n:=eq_of_beq hx;subst e
   by_cases hc:(k ==NameKind.free && env.scope.kind == .function && env.kindOf x ==some .cell)=true
   ·rw [if_pos hc];simp only [List.lookup_cons,beq_self_eq_true,Option.map_some];rw [if_pos hc]
   ·rw [if_neg hc];simp only [List.lookup_cons,beq_self_eq_true,Option.map_some];rw [if_neg hc]
  |false=>
   by_cases hc:(k ==NameKind.free && env.scope.kind == .function && env.kindOf n ==some .cell)=true
   ·rw [if_pos hc];simp only [List.lookup_cons,hx];exact ih
   ·rw [if_neg hc];simp only [List.lookup_cons,hx];exact ih
def ax_3(inner outer:List (Str×NameKind))(N N':List Str):Bool:=
 (inner.all λp=>p.2 != .cell && (p.2 != .local || inner.lookup p.1 ==some .local) && (p.2 != .free || (outer.lookup p.1 ==some .cell || outer.lookup p.1 ==some .free))) &&
 (List.range N.length).all λi=>match N'[i]? with
  |some x=>(match inner.lookup x with
   |some .free=>N[i]? ==some x && (outer.lookup x ==some .cell || outer.lookup x ==some .free)
   |some .local=>false
   |some .cell=>false
   |_=>true)
  |none=>true
def bd_9{scope:Scope}{N':List Str}(ok:X.Ok)(hk:scope.kind=.function)(hb:ax_3 scope.names X.env.scope.names X.N N'=true):CompN X scope (Dp X.env.cells scope.names []) N':=by
 unfold ax_3 at hb;rw [Bool.and_eq_true] at hb;obtain⟨h1,h2⟩:=hb;have h1:=List.all_eq_true.mp h1;have h2:=List.all_eq_true.mp h2;have fr:∀p∈scope.names,p.2=.free->∃c,X.env.cells.lookup p.1=some c:=λp hp hf=>by
  have z:=h1 p hp;simp only [hf,Bool.and_eq_true,Bool.or_eq_true,bne_iff_ne,beq_iff_eq] at z;exact ok.has p.1 (by
   rcases z.2 with z|z
   ·exact absurd rfl z
   ·exact z)
 have inn:∀x k,scope.names.lookup x=some k->(x,k)∈scope.names:=λx k e=>PySem.mem_of_lookup e;have av:∀p∈scope.names,p.2≠ .cell:=λp hp hc=>by
  have z:=h1 p hp;rw [hc] at z;simp at z
 have cz:∀x,scope.names.lookup x=some .free->∃c,(Dp X.env.cells scope.names []).lookup x=some c:=λx e=>Option.isSome_iff_exists.mp (cb_2 (inn x _ e));have dm:∀x,((relabel scope X.env).names.lookup x=some .cell\/(relabel scope X.env).names.lookup x=some .free)->scope.names.lookup x=some .free:=λx h=>by
  unfold relabel at h;rw [x_6] at h;cases e:scope.names.lookup x with
  |none=>rw [e] at h;simp at h
  |some k=>
   rw [e] at h;have nc:=av (x,k) (inn x k e);cases k with
   |free=>rfl
   |cell=>exact absurd rfl nc
   |«local»=>simp at h
   |globalExplicit=>simp at h
   |globalImplicit=>simp at h
 refine⟨bj_4 fr,av,hk,λy hy hl=> ?_,λx c e=> ?_,λx h=>cz x (dm x h),λi x e hi hv=> ?_⟩
 ·have z:=h1 y hy;simp only [hl,Bool.and_eq_true,Bool.or_eq_true,bne_iff_ne,beq_iff_eq] at z;rcases z.1.2 with z|z
  ·exact absurd rfl z
  ·exact z
 ·rcases cb_0 (PySem.mem_of_lookup e) with z|⟨z1,z2⟩
  ·exact absurd z (by simp)
  ·obtain⟨c',e'⟩:=fr (x,.free) z1 rfl;have z2:c=(X.env.cells.lookup x).getD 0:=z2;have e':X.env.cells.lookup x=some c':=e';rw [e'] at z2⊢;cases z2;rfl
 ·have z:=h2 i (List.mem_range.mpr hi);rw [e] at z;dsimp only at z;have look:scope.names.lookup x=some .free/\(((relabel scope X.env).names.lookup x=some .cell\/(relabel scope X.env).names.lookup x=some .free)):=by
   unfold Vis relabel at hv;unfold relabel;rw [x_6] at hv⊢;cases q:scope.names.lookup x with
   |none=>rw [q] at hv;simp at hv
   |some k=>
    rw [q] at hv z;cases k with
    |free=>
     refine⟨rfl, ?_⟩
     by_cases hc:(X.env.scope.kind == .function && X.env.kindOf x ==some .cell)=true
     ·left;simp [Bool.and_assoc,hc]
     ·right;simp [Bool.and_assoc,hc]
    |cell=>simp at z
    |«local»=>simp at z
    |globalExplicit=>simp at hv
    |globalImplicit=>simp at hv
  rw [look.1] at z;simp only [Bool.and_eq_true,Bool.or_eq_true,beq_iff_eq] at z;exact⟨z.1,z.2,cz x look.1,look.2⟩
def cw_4{elt iter tg:Expr}{ifs:List Expr}{scope:Scope}{N':List Str}{fi:FI}{fg:FGc}{p:FT}{f:FE}{m:Nat}(hx0:∀e s,¬X.xe e s)(hc:X.calm=true)(hk:scope.kind=.function)(hb:ax_3 scope.names X.env.scope.names X.N N'=true)
  (hm:N'.length=X.N.length + m)
  (hin:∀C s0 H0 fp pn,GC (Gi X scope (Dp X.env.cells scope.names []) N' C s0 H0 fp pn) Du tg fg/\CTs (Gi X scope (Dp X.env.cells scope.names []) N' C s0 H0 fp pn) Du ifs p/\ED (Gi X scope (Dp X.env.cells scope.names []) N' C s0 H0 fp pn) Du elt f)
  {zd:List (Addr×Obj)} {s:Shared} {σ:Sg} {δ:DE} (I:Inv X zd σ H s) {Z:Hp->Hp->Prop} (hZ:∀G2 H2,Z G2 H2->Same G2 H2/\HasS X.K G2 σ δ)
  (hit:wpAny (model X.prog X.w) X.A (eval iter X.env) (λxv s₁=>wpAny (model X.prog X.w) X.A (pyIter xv) (λitv s₂=>∃(it:Addr) (fp:List Addr) (tn:Nat->Heap->Prop) (J:It) (H2:Hp) (ds:List D) (G2:Hp),itv=.ref it/\Inv X zd σ H2 s₂/\Turn X.prog X.w X.K tg J fp it tn/\tn 0 s₂.heap/\(∀b∈fp,Dy X zd H2 b)/\fi δ=.ok ds/\Z G2 H2/\ItD X.K G2 J ds) X.xe s₁) X.xe s)
  {RR:Value->Addr->Result->Shared->Prop}
  (o:match Bt m fi fg p f δ with| .ok _=>True| .ex x=>False| .no=>False)
  (hRR:∀(Da C:Addr) (s1:Shared) (G2 H2 G' H':Hp) (vs:List V) (rs:List D),Bt m fi fg p f δ=.ok (.ow (.lst rs))->Inv X zd σ H' s1->(∃m,s1.heap.Ns C m)->Dy X zd H' C->Z G2 H2->Step G2 H2 G' H'->H2 Da=none->H' Da=some (.lst vs)->G' Da=none->HasL X.K G' vs rs->RR (.ref Da) C (.ok .next) s1):
  wpAny (model X.prog X.w) X.A (eval iter X.env) (λx s₁=>wpAny (model X.prog X.w) X.A (pyIter x) (λit s₂=>wpAny (model X.prog X.w) X.A (newList []) (λzp s₃=>
   wpAny (model X.prog X.w) X.A (newFunctionEnv scope X.env.globals (Dp X.env.cells scope.names []) [] X.env.qual none .none (some X.env)) (λcenv s₄=>
    codeAny (model X.prog X.w) X.A (.compStart (.ListComp elt [⟨tg,iter,ifs,0⟩] scope pos) 0 it zp {cenv with scope:=relabel scope X.env}) (RR zp cenv.locals) s₄) X.xe s₃) X.xe s₂) X.xe s₁) X.xe s:=by
 have n:=bd_9 I.ok hk hb;generalize hcle:Dp X.env.cells scope.names []=cl at n hin⊢;have ck:∀ds,fi δ=.ok ds->ds.length<=16777216/\(match Ee fg p f (δ ++ List.replicate m none) ds with| .ok rs=>Bt m fi fg p f δ=.ok (.ow (.lst rs))| .ex x=>False| .no=>False):=λds e=>by
  unfold Bt at o⊢;simp only [e,R.bind_ok] at o⊢
  by_cases hz:ds.length<=16777216
  ·refine⟨hz, ?_⟩;rw [if_pos hz] at o⊢;cases e2:Ee fg p f (δ ++ List.replicate m none) ds with
   |ok rs=>rfl
   |ex x=>rw [e2] at o;exact o
   |no=>rw [e2] at o;exact o
  ·rw [if_neg hz] at o;exact o.elim
 
 refine wpAny_mono hit (λxv s₁ h₁=>wpAny_mono h₁ (λitv s₂ h₂=> ?_) λ_ _ e=>(hx0 _ _ e).elim) λ_ _ e=>(hx0 _ _ e).elim;obtain⟨it,fp,tn,J,H2,ds,G2,rfl,I2,T,st2,f2,e2,hz2,itd⟩:=h₂;obtain⟨sg2,h0⟩:=hZ G2 H2 hz2;obtain⟨hz,o⟩:=ck ds e2
 
 have hfD:H2 s₂.heap.objs.size=none:=I2.hok.fresh (Nat.le_refl _);refine wpAny_newObj_type (wpAny_newFunctionEnv n.cell (by intro y hy;simp at hy) (λh₁ hns₁ hsb₁=> ?_) n.kind);dsimp only at hns₁ hsb₁⊢;generalize hDa:s₂.heap.objs.size=Da at hfD;have hDn: @Eq Nat s₂.heap.objs.size Da:=hDa;have I3:Inv X zd σ (upd H2 Da (.lst [])) {s₂ with heap:=s₂.heap.push {cls:=.type "list",dict:=none,data:=.seq ([]:List Value).toArray}}:=by
  rw [<-hDa];exact I2.lnew (t':=s₂.toks) .nil (Nat.zero_le _)
 generalize hH3:s₂.heap.push {cls:=.type "list",dict:=none,data:=.seq ([]:List Value).toArray}=hp3 at hns₁ hsb₁ I3⊢;have hC:hp3.objs.size=Da + 1:=by rw [<-hH3,Heap.size_push,hDa]
 generalize hCe:hp3.objs.size=C at hns₁ hsb₁ hC;have hCn: @Eq Nat hp3.objs.size C:=hCe;have hC2: @Eq Nat C (Da + 1):=hC;have fm:∀b o,s₂.heap.get? b=some o->hp3.get? b=some o:=λb o e=>by rw [<-hH3];exact Heap.get?_push_of_some _ e
 have up:∀b o,hp3.get? b=some o->h₁.get? b=some o:=λb o e=>hsb₁.extBut b o (Nat.ne_of_lt (show @LT.lt Nat _ b C by rw [<-hCn];exact Heap.lt_size e)) (Heap.get?_push_of_some _ e)
 
 have fpC:∀b∈fp,b < s₂.heap.objs.size:=λb hb=>by
  obtain⟨o,e,_⟩:=T.obj _ _ st2 b hb;exact Heap.lt_size e
 have hcl:∀x c,cl.lookup x=some c->c < hp3.objs.size/\c∉fp/\(upd H2 Da (.lst [])) c=none:=λx c e=>by
  have e':=n.sub x c e;obtain⟨v,hv⟩:=I3.cell x c e';exact⟨hv.lt,λz=>(f2 c z).2.2.2.2.1 x c e' rfl,I3.freeC x c e'⟩
 let X':=Gi X scope cl N' C {s₂ with heap:=hp3} (upd H2 Da (.lst [])) fp (X.pn ++ zd)
 have ok':X'.Ok:=by
  refine⟨I.ok.mod,n.kind,I.ok.glob,I.ok.blt,Nat.le_of_eq hCe,λx y c h1 h2=>I.ok.inj x y c (n.sub x c h1) (n.sub y c h2),λx hx=>n.has x hx,λx c z=> ?_,I.ok.hd,I.ok.frames,.inl rfl,λb hb=>⟨?_,λx c e z=> ?_⟩,λb o e=> ?_, ?_,λb o e hb=> ?_,λb hb z=> ?_,I3.stack,I3.stkFree⟩
  ·exact absurd z Bool.false_ne_true
  ·exact Nat.ne_of_lt (Nat.lt_of_lt_of_le (fpC b hb) (show @LE.le Nat _ s₂.heap.objs.size C by omega))
  ·subst z;exact(hcl x c e).2.1 hb
  ·exact I3.bs b o e
  ·exact Nat.le_trans I.ok.bsz I3.sz
  ·rcases(f2 b hb).2.2.2.1 with z|z
   ·exact I.ok.noex b o e z
   ·exact absurd (Heap.lt_size (I.ok.bs b o e).1) (Nat.not_lt_of_le z)
  ·rcases List.mem_cons.mp (I3.stkSub b z) with z|z
   ·exact(f2 b hb).2.1 z
   ·exact(f2 b hb).2.2.1 z
 have lenσ:σ.length=X.N.length:=I.len;have I4:Inv X' [] (σ ++ List.replicate m none) (upd H2 Da (.lst [])) {s₂ with heap:=h₁,toks:=s₂.toks + ([]:List (Str×Value)).length}:=by
  refine⟨ok',rfl,I2.bare,Un.kept up,⟨_,hns₁,λi x v e1 e2 e3=> ?_⟩,λx c e=> ?_, ?_,λx c e=>(hcl x c e).2.2,λp hp=> ?_,I3.hok.kept up, ?_⟩
  ·have hi:i < σ.length:=by
    by_cases hh:i < σ.length
    ·exact hh
    ·rw [List.getElem?_append_right (by omega),List.getElem?_replicate] at e2
     split at e2 <;> cases e2
   rw [List.getElem?_append_left hi] at e2;obtain⟨n1,n2,⟨c,n3⟩,n4⟩:=n.old i x e1 (by omega) e3;obtain⟨mm,hnm,hl⟩:=I3.loc;obtain⟨u,r,l⟩:=hl i x v n1 e2 (.inr n2);refine⟨u,r,.inr ⟨n4,c,n3, ?_⟩⟩;have n3':=n.sub x c n3;rcases l with⟨k1,k2⟩|⟨k1,c',k2,k3⟩
   ·exfalso;have k1':X.env.scope.names.lookup x=some .local:=k1;rcases n2 with n2|n2
    ·rw [n2] at k1';cases k1'
    ·rw [n2] at k1';cases k1'
   ·rw [n3'] at k2;cases k2;exact k3.keeps up
  ·obtain⟨v,hv⟩:=I3.cell x c (n.sub x c e);exact⟨v,hv.keeps up⟩
  ·show upd H2 Da (.lst []) C=none;exact I3.hok.fresh (by show hp3.objs.size<=C;omega)
  ·have hp':p∈X.pn ++ zd:=by
    have hp2:p∈(X.pn ++ zd) ++ []:=hp
    rwa [List.append_nil] at hp2
   obtain⟨z1,z2,z3,z4,z5⟩:=I3.pin p hp';refine⟨up _ _ z1,z2, ?_,λz=> ?_,z5⟩
   ·exact Nat.ne_of_lt (show @LT.lt Nat _ p.1 C by rw [<-hCn];exact Heap.lt_size z1)
   ·rcases List.mem_cons.mp (I3.stkSub p.1 z) with z|z
    ·exact z3 z
    ·exact z4 z
  ·rw [List.length_append,List.length_replicate,lenσ];exact hm.symm
 obtain⟨hgc,hct,hel⟩:=hin C {s₂ with heap:=hp3} (upd H2 Da (.lst [])) fp (X.pn ++ zd);have hS4:HasS X.K G2 (σ ++ List.replicate m none) (δ ++ List.replicate m none):=by
  refine⟨by rw [List.length_append,List.length_append,List.length_replicate,List.length_replicate,h0.len],λi d e=> ?_⟩
  by_cases hh:i < δ.length
  ·rw [List.getElem?_append_left hh] at e;obtain⟨v,e1,r⟩:=h0.get i d e;exact⟨v,by rw [List.getElem?_append_left (by rw [h0.len];exact hh)];exact e1,r⟩
  ·rw [List.getElem?_append_right (by omega),List.getElem?_replicate] at e
   split at e <;> cases e
 generalize hδ:δ ++ List.replicate m none=δ' at hS4 o;have stn:tn 0 h₁:=T.keep 0 _ _ st2 λb hb o e=>up b o (fm b o e);have fpn:∀b∈fp,(upd H2 Da (.lst [])) b=none:=λb hb=>by
  rw [Bm (Nat.ne_of_lt (show @LT.lt Nat _ b Da by rw [<-hDn];exact fpC b hb))];exact(f2 b hb).1
 have bt:∀{pl:List (Addr×Obj)} {H':Hp},pl= []->(∀b∈fp,H' b=none)->∀b∈fp,Dy X' pl H' b:=λ{pl H'} hpl hn b hb=>by
  subst hpl;refine⟨hn b hb, ?_,λz=> ?_,.inl hb,λx c e z=> ?_,λp hp z=> ?_⟩
  ·exact Nat.ne_of_lt (Nat.lt_of_lt_of_le (fpC b hb) (show @LE.le Nat _ s₂.heap.objs.size C by omega))
  ·rcases List.mem_cons.mp (I3.stkSub b z) with z|z
   ·exact(f2 b hb).2.1 z
   ·exact(f2 b hb).2.2.1 z
  ·subst z;exact(hcl x c e).2.1 hb
  ·have hp':p∈X.pn ++ zd:=by
    have hp2:p∈(X.pn ++ zd) ++ []:=hp
    rwa [List.append_nil] at hp2
   exact(f2 b hb).2.2.2.2.2 p hp' z
 have loop:∀s4:Shared,Inv X' [] (σ ++ List.replicate m none) (upd H2 Da (.lst [])) s4->tn 0 s4.heap->codeAny (model X.prog X.w) X.A (.compLoop (.ListComp elt [⟨tg,iter,ifs,0⟩] scope pos) 0 (.ref it) (.ref Da) (compEnvC scope cl C X.env)) (RR (.ref Da) C) s4:=by
  intro s4 I4 tn4;refine cl_4 (λk s'=>∃i σ' H' G' vs rs,k=ds.length - i/\i<=ds.length/\Inv X' [] σ' H' s'/\tn i s'.heap/\(∀b∈fp,H' b=none)/\HasS X.K G' σ' δ'/\Step G2 H2 G' H'/\Same G2 G'/\H' Da=some (.lst vs)/\G' Da=none/\
   HasL X.K G' vs rs/\rs.length<=i/\(match Ee fg p f δ' (ds.drop i) with| .ok rs2=>Bt m fi fg p f δ=.ok (.ow (.lst (rs ++ rs2)))| .ex x=>False| .no=>False)) ?_ ds.length
   ⟨0,_,_,G2,[],[],by simp,Nat.zero_le _,I4,tn4,fpn,hS4,Step.own sg2 hfD _,Same.refl _,Cs,sg2.free hfD,.nil,Nat.zero_le _,by simpa using o⟩
  rintro k s' ⟨i,σ',H',G',vs,rs,rfl,hi,I',tni,fn',hS,st,sg,hD,gD,rl,hl,o'⟩
  obtain⟨i1,i2⟩:=itd G' H' sg st.gh i
  by_cases hlt:i < ds.length
  ·obtain⟨d,e1,e2⟩:=ab_9 hlt;obtain⟨go,yl⟩:=i1 d e1;refine Bi (T.item X' rfl rfl rfl hc i [] s' σ' H' _ I' (bt rfl fn') tni go) λr s1 ⟨u,hr,h1⟩=> ?_;subst hr;refine Bi h1 λ_ s5 ⟨x,H5,I5,r5,y5,st5,fr5⟩=> ?_;obtain⟨G5,aq,hx5⟩:=yl x H5 y5;have I5':=I5.pinned (bt rfl fr5) (T.obj _ _ st5);rw [e2] at o';have o1:match((fg d δ').bind λ δ1=>(p δ1).bind λb=>if b=true then(f δ1).bind λw=>(Ee fg p f δ' (ds.drop (i + 1))).bind λrs=> .ok (w.d::rs) else Ee fg p f δ' (ds.drop (i + 1))) with| .ok rs2=>Bt m fi fg p f δ=.ok (.ow (.lst (rs ++ rs2)))| .ex x=>False| .no=>False:=o'
   have hS5:HasS X.K G5 σ' δ':=hS.mono aq.gg;refine wpAny_mono (hgc _ s5 σ' H5 x u (λ σ6 H6=>∃δ1,fg d δ'=.ok δ1/\H6=H5/\HasS X.K G5 σ6 δ1/\HasS X.K G5 σ6 δ') I5' r5 ⟨G5,δ',d,aq.gh,hS5,hx5, ?_⟩) (λ_ s6 ⟨σ6,H6,I6,δ1,e6,eH,hS6,hS6'⟩=> ?_) λ_ _ z=>False.elim z
   ·cases e6:fg d δ' with
    |ok δ1=>exact λ σ6 h6 h6'=>⟨δ1,rfl,rfl,h6,h6'⟩
    |ex x=>rw [e6] at o1;exact o1
    |no=>rw [e6] at o1;exact o1
   subst eH;rw [e6] at o1;simp only [R.bind_ok] at o1;refine wpAny_mono (hct _ s6 σ6 H6 (λb H7=>∃G7,p δ1=.ok b/\Step G5 H6 G7 H7) I6 ⟨G5,δ1,aq.gh,hS6, ?_⟩) (λb s7 ⟨H7,I7,G7,e7,stp7⟩=> ?_) λ_ _ z=>False.elim z
   ·cases e7:p δ1 with
    |ok b=>exact λG7 H7 st7=>⟨G7,rfl,st7⟩
    |ex x=>rw [e7] at o1;exact o1
    |no=>rw [e7] at o1;exact o1
   rw [e7] at o1;simp only [R.bind_ok] at o1
   
   have gD7:G7 Da=none:=(aq.trans stp7).nw Da gD (by rw [hD];simp);have hD7:H7 Da=some (.lst vs):=(aq.trans stp7).hh _ _ hD;have bo:∀{σ9:Sg} {H9:Hp} {s9:Shared},Inv X' ([] ++ bc_6 fp s5.heap) σ9 H9 s9->tn (i + 1) s9.heap/\∀b∈fp,H9 b=none:=λ{σ9 H9 s9} I9=>
    ⟨T.keep _ _ _ st5 λb hb o e=>(I9.pin (b,o) (List.mem_append_right _ (List.mem_append_right _ (ad_6 hb e)))).1,λb hb=>by
     obtain⟨o,e,d⟩:=T.obj _ _ st5 b hb;exact(I9.pin (b,o) (List.mem_append_right _ (List.mem_append_right _ (ad_6 hb e)))).2.1⟩
   have hSk:∀{G9:Hp},Same G7 G9->HasS X.K G9 σ6 δ':=λ{G9} sm=>hS6'.mono (stp7.gg.trans sm);cases b with
   |false=>
    rw [if_neg Bool.false_ne_true] at o1⊢;exact⟨ds.length - (i + 1),by omega,i + 1,σ6,H7,G7,vs,rs,rfl,hlt,I7.unpinned,(bo I7).1,(bo I7).2,hSk (Same.refl _),st.trans (aq.trans stp7),sg.trans (aq.gg.trans stp7.gg),hD7,gD7,rl.mono (aq.gg.trans stp7.gg),by omega,o1⟩
   |true=>
    rw [if_pos rfl] at o1⊢;refine wpAny_mono (hel _ s7 σ6 H7 (λv H8=>∃w G8,f δ1=.ok w/\Step G7 H7 G8 H8/\Has X.K G8 v w.d) I7 ⟨G7,δ1,stp7.gh,hS6.mono stp7.gg, ?_⟩) (λu8 s8 ⟨v8,H8,I8,r8,w8,G8,e8,stp8,hv8⟩=> ?_) λ_ _ z=>False.elim z
    ·cases e8:f δ1 with
     |ok w=>exact WP.intro λv G8 H8 st8 r8=>⟨w,G8,rfl,st8,r8⟩
     |ex x=>rw [e8] at o1;exact o1
     |no=>rw [e8] at o1;exact o1
    rw [e8] at o1;simp only [R.bind_ok] at o1;have gD8:G8 Da=none:=stp8.nw Da gD7 (by rw [hD7];simp);have hD8:H8 Da=some (.lst vs):=stp8.hh _ _ hD7;have rl8:HasL X.K G8 vs rs:=rl.mono (aq.gg.trans (stp7.gg.trans stp8.gg));refine wpAny_mono (at_9 (X:=X') _ s8 σ6 H8 (.ref Da) [v8] (.ref Da) [u8] (λ_ H9=>H9=upd H8 Da (.lst (vs ++ [v8]))) I8 rfl (.cons r8 .nil) ⟨Da,vs,v8,rfl,rfl,hD8,by rw [rl.length,sizeLine_eq];omega,rfl⟩) (λ_ s9 ⟨_,H9,I9,_,e9⟩=> ?_) λ_ _ z=>False.elim z;subst e9;have stA:=st.trans (aq.trans (stp7.trans stp8));refine⟨ds.length - (i + 1),by omega,i + 1,σ6,_,G8,vs ++ [v8],rs ++ [w8.d],rfl,hlt,I9.unpinned,(bo I9).1,(bo I9).2,hSk stp8.gg,⟨λb o z=> ?_,λb o z=> ?_,stA.gg,stA.nw⟩,sg.trans (aq.gg.trans (stp7.gg.trans stp8.gg)),Cs,gD8,rl8.append (.cons hv8 .nil),by rw [List.length_append,List.length_singleton];omega, ?_⟩
    ·rw [Bm (Fz z hfD)];exact stA.hh b o z
    ·rw [Bm (Fz z gD8)];exact stp8.gh b o z
    ·cases e10:Ee fg p f δ' (ds.drop (i + 1)) with
     |ok rs2=>
      rw [e10] at o1;simp only [R.bind_ok] at o1⊢;rw [List.append_assoc];exact o1
     |ex x=>rw [e10] at o1;exact o1
     |no=>rw [e10] at o1;exact o1
  ·have e:ds.length=i:=by omega
   refine Bi (T.done X' rfl rfl rfl hc i [] s' σ' H' _ I' (bt rfl fn') tni (i2 e)) λr s1 ⟨hr,I1⟩=> ?_;subst hr;rw [List.drop_eq_nil_of_le (by omega)] at o';have o1:Bt m fi fg p f δ=.ok (.ow (.lst (rs ++ []))):=o';rw [List.append_nil] at o1;obtain⟨mm,hnm,_⟩:=I1.loc;have dv:Inv X zd σ H' s1:=I3.call' (s':=s1) (ch:=fp) I1.os I1.base I1.hok I1.bare λb hb=>by
    obtain⟨f0,f1',f2',f3,f4,f5⟩:=f2 b hb;exact⟨f3,f1',f4,f5⟩
   exact hRR Da C s1 G2 H2 G' H' vs rs o1 dv ⟨mm,hnm⟩ (I3.fpOk (by show hp3.objs.size<=C;omega) I1.free) hz2 st hfD hD gD rl
 exact codeAny_compStart_list (loop _ I4 stn) (T.self X.A 0 _ _ _ stn (loop _ I4 stn))
def be_0{elt iter tg:Expr}{ifs:List Expr}{scope:Scope}{N':List Str}{fi:FI}{fg:FGc}{p:FT}{f:FE}{m:Nat}(hx0:∀e s,¬X.xe e s)(hc:X.calm=true)(hi:ID X Du tg iter fi)(hk:scope.kind=.function)(hb:ax_3 scope.names X.env.scope.names X.N N'=true)
  (hm:N'.length=X.N.length + m)
  (hin:∀C s0 H0 fp pn,GC (Gi X scope (Dp X.env.cells scope.names []) N' C s0 H0 fp pn) Du tg fg/\CTs (Gi X scope (Dp X.env.cells scope.names []) N' C s0 H0 fp pn) Du ifs p/\ED (Gi X scope (Dp X.env.cells scope.names []) N' C s0 H0 fp pn) Du elt f)
  {zd:List (Addr×Obj)} {s:Shared} {σ:Sg} {G H:Hp} {δ:DE} (I:Inv X zd σ H s) (g0:Same G H) (h0:HasS X.K G σ δ) {RR:Value->Addr->Result->Shared->Prop}
  (o:match Bt m fi fg p f δ with| .ok _=>True| .ex x=>False| .no=>False)
  (hRR:∀(Da C:Addr) (s1:Shared) (G' H':Hp) (vs:List V) (rs:List D),Bt m fi fg p f δ=.ok (.ow (.lst rs))->Inv X zd σ H' s1->(∃m,s1.heap.Ns C m)->Dy X zd H' C->Step G H G' H'->H Da=none->H' Da=some (.lst vs)->G' Da=none->HasL X.K G' vs rs->RR (.ref Da) C (.ok .next) s1):
  wpAny (model X.prog X.w) X.A (eval iter X.env) (λx s₁=>wpAny (model X.prog X.w) X.A (pyIter x) (λit s₂=>wpAny (model X.prog X.w) X.A (newList []) (λzp s₃=>
   wpAny (model X.prog X.w) X.A (newFunctionEnv scope X.env.globals (Dp X.env.cells scope.names []) [] X.env.qual none .none (some X.env)) (λcenv s₄=>
    codeAny (model X.prog X.w) X.A (.compStart (.ListComp elt [⟨tg,iter,ifs,0⟩] scope pos) 0 it zp {cenv with scope:=relabel scope X.env}) (RR zp cenv.locals) s₄) X.xe s₃) X.xe s₂) X.xe s₁) X.xe s:=by
 refine cw_4 hx0 hc hk hb hm hin I (Z:=λG2 H2=>Step G H G2 H2) (λG2 H2 z=>⟨z.gh,h0.mono z.gg⟩) ?_ o λDa C s1 G2 H2 G' H' vs rs e Io hm' fc z st h1 h2 h3 rl=>hRR Da C s1 G' H' vs rs e Io hm' fc (z.trans st) (z.hh.free h1) h2 h3 rl;refine wpAny_mono (hi zd s σ H (λJ H2=>∃ds G2,fi δ=.ok ds/\Step G H G2 H2/\ItD X.K G2 J ds) I ⟨G,δ,g0,h0, ?_⟩) (λxv s₁ h₁=>wpAny_mono h₁ (λitv s₂ h₂=> ?_) λ_ _ e=>(hx0 _ _ e).elim) λ_ _ e=>(hx0 _ _ e).elim
 ·unfold Bt at o;cases e:fi δ with
  |ok ds=>exact λJ G2 H2 st it=>⟨ds,G2,rfl,st,it⟩
  |ex x=>rw [e] at o;exact o
  |no=>rw [e] at o;exact o
 ·obtain⟨it,fp,tn,J,H2,rfl,I2,T,st2,f2,ds,G2,e2,stp,itd⟩:=h₂;exact⟨it,fp,tn,J,H2,ds,G2,rfl,I2,T,st2,f2,e2,stp,itd⟩
def de_6{elt iter tg:Expr}{ifs:List Expr}{scope:Scope}{N':List Str}{fi:FI}{fg:FGc}{p:FT}{f:FE}{m:Nat}(hx0:∀e s,¬X.xe e s)(hc:X.calm=true)(hi:ID X Du tg iter fi)(hk:scope.kind=.function)(hb:ax_3 scope.names X.env.scope.names X.N N'=true)
  (hm:N'.length=X.N.length + m)
  (hin:∀C s0 H0 fp pn,GC (Gi X scope (Dp X.env.cells scope.names []) N' C s0 H0 fp pn) Du tg fg/\CTs (Gi X scope (Dp X.env.cells scope.names []) N' C s0 H0 fp pn) Du ifs p/\ED (Gi X scope (Dp X.env.cells scope.names []) N' C s0 H0 fp pn) Du elt f)
  (hs:∀x,foldedSetIterable iter X.env x=pure x:=by intro _;rfl):ED X Du (.ListComp elt [⟨tg,iter,ifs,0⟩] scope pos) (Bt m fi fg p f):=by
 intro zd s σ H Q I q;obtain⟨G,δ,g0,h0,o⟩:=q;rw [eval_ListComp];have n:=bd_9 I.ok hk hb;refine wpAny_comprehension_free (use:=none) rfl hs n.clos n.kind n.names (be_0 (RR:=λzp C=>compPost (model X.prog X.w) X.A X.xe none (EP X zd σ Q) zp C) hx0 hc hi hk hb hm hin I g0 h0 ?_ λDa C s1 G' H' vs rs e Io hm' fc st h1 h2 h3 rl=> ?_)
 ·cases e:Bt m fi fg p f δ with
  |ok w=>trivial
  |ex x=>rw [e] at o;exact o
  |no=>rw [e] at o;exact o
 ·rw [e] at o;obtain⟨mm,hnm⟩:=hm';obtain⟨c0,c1,c2,c3,c4,c5⟩:=fc;exact⟨mm,hnm,λh' sb=>⟨.ref Da,H',Io.turned (t':=s1.toks) (λb ob hb e=>(sb.2 b hb).trans e) c0 c1 c3 c4 c5,rfl,o (.ref Da) (λb=>b=Da) G' H' st (λa e=>by subst e;exact⟨h1,h3,by rw [h2];simp⟩) (.list h2 rfl rl)⟩⟩
def l_2{elt iter tg:Expr}{ifs:List Expr}{scope:Scope}{N':List Str}{fi:FI}{fg:FGc}{p:FT}{f:FE}{m:Nat}(hc:X.calm=true)(hi:ID X.nox Du tg iter fi)(hk:scope.kind=.function)(hb:ax_3 scope.names X.env.scope.names X.N N'=true)
  (hm:N'.length=X.N.length + m)
  (hin:∀C s0 H0 fp pn,GC (Gi X scope (Dp X.env.cells scope.names []) N' C s0 H0 fp pn) Du tg fg/\CTs (Gi X scope (Dp X.env.cells scope.names []) N' C s0 H0 fp pn) Du ifs p/\ED (Gi X scope (Dp X.env.cells scope.names []) N' C s0 H0 fp pn) Du elt f)
  (hs:∀x,foldedSetIterable iter X.env x=pure x:=by intro _;rfl):ED X EX (.ListComp elt [⟨tg,iter,ifs,0⟩] scope pos) (Bt m fi fg p f):=
 PE.imp (PE.nox (de_6 (X:=X.nox) (λ_ _ z=>z) hc hi hk hb hm hin hs)) λ σ H Q ⟨G,δ,g0,h0,o⟩=>by
  refine⟨G,δ,g0,h0, ?_⟩;cases e:Bt m fi fg p f δ with
  |ok w=>rw [e] at o;exact o
  |ex x=>exact(ca_9 e).elim
  |no=>rw [e] at o;exact o
theorem PS.nox{st:Stmt}{t:TS}(h:PS X.nox st t):PS X st t:=λzd s σ H D I hw=>
 wpAny_mono (h zd s σ H D (I.wish _) hw) (λ_ _ q=>q.unwish) λ_ _ z=>False.elim z
def dp_7{i:Nat}{js:List Nat}{f:FE}(h:∀δ x,f δ≠ .ex x){Δ Δ':SE}{x:Xn}(e:Ah i js f Δ=.ex x Δ'):False:=by
 unfold Ah at e;have hp:∀Δ2,Dw i Δ2 (f (Bb Δ2))=.ex x Δ'->False:=λ Δ2 e2=>by
  unfold Dw at e2;cases q:f (Bb Δ2) with
  |ok w=>rw [q] at e2;cases w <;> cases e2
  |ex y=>exact h _ _ q
  |no=>rw [q] at e2;cases e2
 cases q:f (Bb Δ) with
 |ok w=>rw [q] at e;cases w <;> cases e
 |ex y=>exact h _ _ q
 |no=>
  rw [q] at e;cases q2:f (As Δ) with
  |ok w=>
   simp only [q2] at e
   split at e
   ·cases e
   ·exact hp _ e
  |ex y=>exact h _ _ q2
  |no=>simp only [q2] at e;cases e
def de_7(js:List Nat){elt iter tg:Expr}{ifs:List Expr}{scope:Scope}{N':List Str}{fi:FI}{fg:FGc}{p:FT}{f:FE}{m i:Nat}{y:Str}{py bc:Pos}(hx0:∀e s,¬X.xe e s)(hc:X.calm=true)(hi:ID X Du tg iter fi)(hk:scope.kind=.function)(hb:ax_3 scope.names X.env.scope.names X.N N'=true)
  (hm:N'.length=X.N.length + m)
  (hin:∀C s0 H0 fp pn,GC (Gi X scope (Dp X.env.cells scope.names []) N' C s0 H0 fp pn) Du tg fg/\CTs (Gi X scope (Dp X.env.cells scope.names []) N' C s0 H0 fp pn) Du ifs p/\ED (Gi X scope (Dp X.env.cells scope.names []) N' C s0 H0 fp pn) Du elt f)
  (hN:X.N.Nodup) (hy:X.N[i]? =some y:=by rfl) (hx:Loc X.env.scope y:=by first|exact Or.inl rfl|exact Or.inr rfl) (hf:X.fn y=true\/X.env.scope.names.lookup y=some .local:=by first|exact .inl rfl|exact .inr rfl|assumption)
  (hsw:swapsWith (.ListComp elt [⟨tg,iter,ifs,0⟩] scope pos) (some (.Name y py)) bc.line X.env=pure true:=by rfl)
  (hs:∀x,foldedSetIterable iter X.env x=pure x:=by intro _;rfl):SD X Du (.Assign [.Name y py] (.ListComp elt [⟨tg,iter,ifs,0⟩] scope pos) bc) (Ah i js (Bt m fi fg p f)):=by
 intro zd s σ H D I q;have q2:=ca_7 q;obtain⟨G,δ,g0,h0,o⟩:=q2;have n:=bd_9 I.ok hk hb;rw [exec_Assign_Name_used _ _ _ _ hsw];refine wpAny_bind (wpAny_standAt (wpAny_bind ?_));show wpAny _ X.A (do let _<-comprehension (.ListComp elt [⟨tg,iter,ifs,0⟩] scope pos) scope X.env _ (newList []) false (eval iter X.env) (some (assign (.Name y py) X.env))) _ _ s;refine wpAny_bind (wpAny_mono (wpAny_comprehension_free (use:=some (assign (.Name y py) X.env)) (Q:=λ_ s'=>SP X zd D .next s') rfl hs n.clos n.kind n.names
  (be_0 (RR:=λzp C=>compPost (model X.prog X.w) X.A X.xe (some (assign (.Name y py) X.env)) (λ_ s'=>SP X zd D .next s') zp C) hx0 hc hi hk hb hm hin I g0 h0 ?_ λDa C s1 G' H' vs rs e Io hm' fc st h1 h2 h3 rl=> ?_)) (λ_ s' hq=>wpAny_pure (wpAny_pure hq)) λ_ _ e=>e)
 ·cases e:Bt m fi fg p f δ with
  |ok w=>trivial
  |ex x=>rw [e] at o;exact o
  |no=>rw [e] at o;exact o
 ·rw [e] at o;obtain⟨mm,hnm⟩:=hm';obtain⟨c0,c1,c2,c3,c4,c5⟩:=fc;show wpAny _ X.A (assign (.Name y py) X.env (.ref Da)) _ _ _;refine wpAny_assign_Name (bl_5 Io hN hy hx (v:=.ref Da) rfl (λs2 I2 ⟨a,sb,ha⟩=> ?_) hf);have hCa:C≠a:=by
   rcases ha with rfl|ha
   ·exact c1
   ·exact λz=>c4 y a ha z.symm
  refine⟨mm,hnm.sameBut sb hCa,λh' sb'=>⟨_,H',I2.turned (t':=s2.toks) (λb ob hb e=>(sb'.2 b hb).trans e) c0 c1 c3 c4 c5, ?_⟩⟩;exact o (.ref Da) (λb=>b=Da) G' H' st (λa e=>by subst e;exact⟨h1,h3,by rw [h2];simp⟩) (.list h2 rfl rl)
def bs_8(js:List Nat){elt iter tg:Expr}{ifs:List Expr}{scope:Scope}{N':List Str}{fi:FI}{fg:FGc}{p:FT}{f:FE}{m i:Nat}{y:Str}{py bc:Pos}(hc:X.calm=true)(hi:ID X.nox Du tg iter fi)(hk:scope.kind=.function)(hb:ax_3 scope.names X.env.scope.names X.N N'=true)
  (hm:N'.length=X.N.length + m)
  (hin:∀C s0 H0 fp pn,GC (Gi X scope (Dp X.env.cells scope.names []) N' C s0 H0 fp pn) Du tg fg/\CTs (Gi X scope (Dp X.env.cells scope.names []) N' C s0 H0 fp pn) Du ifs p/\ED (Gi X scope (Dp X.env.cells scope.names []) N' C s0 H0 fp pn) Du elt f)
  (hN:X.N.Nodup) (hy:X.N[i]? =some y:=by rfl) (hx:Loc X.env.scope y:=by first|exact Or.inl rfl|exact Or.inr rfl) (hf:X.fn y=true\/X.env.scope.names.lookup y=some .local:=by first|exact .inl rfl|exact .inr rfl|assumption)
  (hsw:swapsWith (.ListComp elt [⟨tg,iter,ifs,0⟩] scope pos) (some (.Name y py)) bc.line X.env=pure true:=by rfl)
  (hs:∀x,foldedSetIterable iter X.env x=pure x:=by intro _;rfl):SD X EX (.Assign [.Name y py] (.ListComp elt [⟨tg,iter,ifs,0⟩] scope pos) bc) (Ah i js (Bt m fi fg p f)):=
 PS.imp (PS.nox (de_7 (X:=X.nox) js (λ_ _ z=>z) hc hi hk hb hm hin hN hy hx hf hsw hs)) λD σ H ⟨H0,G0,G,Δ,O,E,q⟩=>by
  refine⟨H0,G0,G,Δ,O,E, ?_⟩;cases e:Ah i js (Bt m fi fg p f) Δ with
  |ex x Δ'=>exact(dp_7 (λ_ _ z=>ca_9 z) e).elim
  |_=>rw [e] at q;exact q
end
def bn_1:bootBuiltins "bool" =some (.type "bool"):=by decide +kernel
def g_8{k:Nat}{scope:Scope}{cl:List (Str×Addr)}{N':List Str}{C:Addr}{s0:Shared}{H0:Hp}{fp:List Addr}{pn:List (Addr×Obj)}{c:Bool}(h:RoomC c k (Cx.A X)):RoomC c k (Cx.A (Gi X scope cl N' C s0 H0 fp pn)):=h
def cw_5{scope:Scope}{cl:List (Str×Addr)}{N':List Str}{C:Addr}{s0:Shared}{H0:Hp}{fp:List Addr}{pn:List (Addr×Obj)}(h:Cx.calm X=true):Cx.calm (Gi X scope cl N' C s0 H0 fp pn)=true:=h
section
variable{X:Cx}{EX:Bo}{a b e:Expr}{es:List Expr}{f g:FE}{fa:FA}{pos p2:Pos}
abbrev FO:=DE->R (Option Int)
def tDo(K:Frag)(EX:Bo)(fo:FO):TO:=λ σ H Q=>∃G δ,Same G H/\HasS K G σ δ/\match fo δ with
 | .ok i=>∀G' H',Step G H G' H'->Q i H'
 | .ex x=>(EX σ).p x G H
 | .no=>False
abbrev OD(X:Cx)(EX:Bo)(e:Option Expr)(fo:FO):Prop:=PO X e (tDo X.K EX fo)
def oNone:FO:=λ_=> .ok none
def intPart:D->R (Option Int)
 | .int i=> .ok (some i)
 |_=> .no
def Gu(f:FE):FO:=λ δ=>(f δ).bind λw=>intPart w.d
def PO.imp{e:Option Expr}{t t':TO}(h:PO X e t)(i:∀σ H Q,t' σ H Q->t σ H Q):PO X e t':=λzd s σ H Q I q=>h zd s σ H Q I (i σ H Q q)
def dp_8:OD X EX none oNone:=PO.imp dn_8 λ σ H Q ⟨G,δ,g,s,o⟩=>o G H (Step.refl g)
def bs_9(h:ED X EX e f):OD X EX (some e) (Gu f):=PO.imp (dn_9 h) λ σ H Q ⟨G,δ,g,s,o⟩=>by
 refine⟨G,δ,g,s, ?_⟩;unfold Gu at o;cases e1:f δ with
 |ok w=>
  rw [e1] at o;simp only [R.bind_ok] at o;refine WP.intro λv G' H' st r=> ?_;revert r o;cases w.d with
  |int i=>intro o r;cases r;exact⟨i,rfl,o G' H' st⟩
  |_=>intro o _;exact False.elim o
 |ex x=>rw [e1] at o;exact o
 |no=>rw [e1] at o;exact o
def cutL{α:Type}(xs:List α)(lo hi:Option Int):List α:=(xs.drop (HT.sIx xs.length 0 lo)).take (HT.sIx xs.length xs.length hi - HT.sIx xs.length 0 lo)
def be_1:D->Option Int->Option Int->R W
 | .lst ds,lo,hi=> .ok (.ow (.lst (cutL ds lo hi)))
 | .str x,lo,hi=>if x.length<=16777216 then .ok (.sh (.str (Txt.slice x lo hi))) else .no
 |_,_,_=> .no
def eb_5:SlR X (λx lo hi H Q=>∃z,x=.str z/\z.length<=sizeLine/\Q (.str (Txt.slice z lo hi)) H):=by
 intro zd s σ H x v vl vu lo hi sl Q I rx hs pl pu h;obtain⟨z,rfl,hz,q⟩:=h;obtain⟨t,rfl⟩:=rx;refine⟨"str",_,PySem.F.slot_str_getitem.lookup,typeIs_str _ _ _, ?_⟩;obtain⟨o,ho,hc,hd⟩:=hs;have fin:∀t' k,EP X zd σ Q (.str (Txt.slice z lo hi) t') {s with toks:=k}:=λt' k=>⟨.str _,H,I.tok _,⟨_,rfl⟩,q⟩;cases pl with
 |none=>
  cases pu with
  |none=>exact wpAny_getItem_str_slice (l:=none) (u:=none) (st:=none) ⟨o,ho,hc,hd⟩ rfl (post_val_or_str ⟨Nat.le_trans (Txt.slice_le z _ _) hz,fin⟩)
  |int j uj=>exact wpAny_getItem_str_slice (l:=none) (u:=some (j,uj)) (st:=none) ⟨o,ho,hc,hd⟩ rfl (post_val_or_str ⟨Nat.le_trans (Txt.slice_le z _ _) hz,fin⟩)
 |int i ui=>
  cases pu with
  |none=>exact wpAny_getItem_str_slice (l:=some (i,ui)) (u:=none) (st:=none) ⟨o,ho,hc,hd⟩ rfl (post_val_or_str ⟨Nat.le_trans (Txt.slice_le z _ _) hz,fin⟩)
  |int j uj=>exact wpAny_getItem_str_slice (l:=some (i,ui)) (u:=some (j,uj)) (st:=none) ⟨o,ho,hc,hd⟩ rfl (post_val_or_str ⟨Nat.le_trans (Txt.slice_le z _ _) hz,fin⟩)
def rSlD(K:Frag):V->Option Int->Option Int->Hp->VK->Prop:=λx lo hi H Q=>∃(EX:EXT) (G:Hp) (d:D),Same G H/\Has K G x d/\Out K EX G H (be_1 d lo hi) Q
def sl_d:SlR X (rSlD X.K):=by
 intro zd s σ H x v vl vu lo hi sl Q I rx hs pl pu h;obtain⟨EX,G,d,g,r,o⟩:=h;cases r with
 |lst h r=>
  rename_i vs ds;refine do_1 zd s σ H _ v vl vu lo hi sl Q I rx hs pl pu ⟨_,_,rfl,g.seq h,λp hp=> ?_⟩;have dw:HasL X.K G (cutV vs lo hi) (cutL ds lo hi):=by
   unfold cutV cutL;rw [r.length];exact(r.drop _).take _
  exact z_1 o g dw p hp
 |str z=>
  simp only [be_1] at o
  split at o
  ·rename_i hz;exact eb_5 zd s σ H _ v vl vu lo hi sl Q I rx hs pl pu ⟨z,rfl,by rw [sizeLine_eq];exact hz,Dc o g (.str _)⟩
  ·exact o.elim
 |_=>exact False.elim o
def eSlice(f:FE)(lo hi:FO):FE:=λ δ=>(f δ).bind λw=>(lo δ).bind λl=>(hi δ).bind λu=>be_1 w.d l u
def tDo.seq{G H:Hp}{σ:Sg}{δ:DE}{fo:FO}{k:Option Int->R W}{Q:VK}{P:Option Int->Hp->Prop}(g:Same G H)(s:HasS K G σ δ)(h:Out K (EX σ) G H ((fo δ).bind k) Q)
  (i:∀b G' H',fo δ=.ok b->Step G H G' H'->Out K (EX σ) G' H' (k b) Q->P b H'):tDo K EX fo σ H P:=by
 refine⟨G,δ,g,s, ?_⟩;cases e:fo δ with
 |ok w=>rw [e] at h;exact λG' H' st=>i w G' H' e st (Out.mono st h)
 |ex x=>rw [e] at h;exact h
 |no=>rw [e] at h;exact h
def cb_4{lo hi:Option Expr}{fl fh:FO}(he:ED X EX e f)(hl:OD X EX lo fl)(hu:OD X EX hi fh):ED X EX (.Subscript e (.Slice lo hi none p2) pos) (eSlice f fl fh):=
 PE.imp (dc_0 sl_d he hl hu) λ σ H Q ⟨G,δ,g0,s0,o⟩=>tD.seq g0 s0 o λw v G1 H1 _ st1 r1 o1=>tDo.seq st1.gh (s0.mono st1.gg) o1 λl G2 H2 _ st2 o2=>
  tDo.seq st2.gh (s0.mono (st1.gg.trans st2.gg)) o2 λu G3 H3 _ st3 o3=>⟨_,G3,w.d,st3.gh,r1.mono (st2.gg.trans st3.gg),o3⟩
def tyD(T:String):D->Bool
 | .str _=>T == "str"
 | .int _=>T == "int"
 | .lst _=>T == "list"
 |_=>false
def dw_0{G H:Hp}{T:String}{d:D}(g:Same G H)(r:Has K G v d)(h:tyD T d=true):tyV K T v H:=by
 cases r with
 |str x=>exact eq_of_beq h
 |int i=>exact eq_of_beq h
 |lst hq r=>exact .inl ⟨eq_of_beq h,_,g.seq hq⟩
 |_=>cases h
def rDm(K:Frag)(fn:D->List D->R W):V->List V->Hp->VK->Prop:=λx vs H Q=>∃(EX:EXT) (G:Hp) (d:D) (ds:List D),Same G H/\Has K G x d/\HasL K G vs ds/\Out K EX G H (fn d ds) Q
abbrev MtD(X:Cx)(id:String)(fn:D->List D->R W):Prop:=MtR X id (rDm X.K fn)
def Gv(T:String)(fn:D->List D->R W)(f:FE)(fa:FA):FE:=λ δ=>(f δ).bind λw=>if tyD T w.d=true then(fa δ).bind λds=>fn w.d ds else .no
variable{o:Expr}{name:Str}{zh zf:Pos}{T id:String}{fn:D->List D->R W}
def bb_0(pa:PlainAttrs T)(slot:Slot T name id)(hty:typeOf (.builtin id)=pure (.type "method_descriptor"))(hm:MtD X id fn)(ho:ED X EX o f)(ha:AD X EX (e::es) fa)
  (ae:attributeBase o name X.env (eval o X.env)=eval o X.env:=by rfl)
  (au:((backTo zf (starEach (e::es) X.env)).all (λx=> !x.1) && (backToKw zf (keywordEach [] X.env)).all (λx=>x.1.isSome)
   && decide ((e::es).length + ([]:List Keyword).length + (if([]:List Keyword).isEmpty then 0 else 1) < 30))=true:=by rfl)
  (aa:(zh.endLine ==zf.line)=true:=by rfl) (hs:starEach (e::es) X.env=(false,eval e X.env)::starEach es X.env:=by rfl) (af:(backTo zf (starEach es X.env)).any (·.1)=false:=by rfl):
  ED X EX (.Call (.Attribute o name zh) (e::es) [] zf) (Gv T fn f fa):=
 PE.imp (cp_9 pa slot hty hm ho ha ae au aa hs af) λ σ H Q ⟨G,δ,g0,s0,o⟩=>tD.seq g0 s0 o λw v G1 H1 _ st1 r1 o1=>by
  split at o1
  ·rename_i ht;exact⟨dw_0 st1.gh r1 ht,tDa.seq st1.gh (s0.mono st1.gg) o1 λds vs G2 H2 _ st2 r2 o2=>⟨_,G2,w.d,ds,st2.gh,r1.mono st2.gg,r2,o2⟩⟩
  ·exact o1.elim
def eMeth0(T:String)(fn:D->List D->R W)(f:FE):FE:=λ δ=>(f δ).bind λw=>if tyD T w.d=true then fn w.d [] else .no
def de_8(pa:PlainAttrs T)(slot:Slot T name id)(hty:typeOf (.builtin id)=pure (.type "method_descriptor"))(hm:MtD X id fn)(ho:ED X EX o f)
  (ae:attributeBase o name X.env (eval o X.env)=eval o X.env:=by rfl) (aa:(zh.endLine ==zf.line)=true:=by rfl):ED X EX (.Call (.Attribute o name zh) [] [] zf) (eMeth0 T fn f):=
 PE.imp (dc_4 pa slot hty hm ho ae aa) λ σ H Q ⟨G,δ,g0,s0,o⟩=>tD.seq g0 s0 o λw v G1 H1 _ st1 r1 o1=>by
  split at o1
  ·rename_i ht;exact⟨dw_0 st1.gh r1 ht,_,G1,w.d,[],st1.gh,r1,.nil,o1⟩
  ·exact o1.elim
def de_9:D->List D->R W
 | .int i,[]=> .ok (.sh (.int (Builtin.Int.intBits i:Nat)))
 |_,_=> .no
def cw_6:MtD X "int.bit_length" de_9:=by
 intro zd s σ H x vs v us Q I rx rv h;obtain⟨EX,G,d,ds,g,r,rl,o⟩:=h;cases r with
 |int i=>
  cases rl with
  |nil=>
   obtain⟨t,rfl⟩:=rx;cases rv;exact PyProof.Rows.call_int_bit_length ⟨.int _,H,I.tok _,⟨_,rfl⟩,Dc o g (.int _)⟩
  |cons _ _=>exact False.elim o
 |_=>cases rl <;> exact False.elim o
def be_2:D->List D->R W
 | .str x,[.str y]=> .ok (.sh (.int (Txt.count x y)))
 |_,_=> .no
def cr_0{G:Hp}{d:D}{ds:List D}(r:Has K G v d)(rl:HasL K G vs ds){P:Prop}(h:∀x y,v=.str x->d=.str x->vs= [.str y]->ds= [.str y]->P)(n:(∀x y,¬(d=.str x/\ds= [.str y]))->P):P:=by
 by_cases e:∃x y,d=.str x/\ds= [.str y]
 ·obtain⟨x,y,rfl,rfl⟩:=e;cases r;cases rl with
  |cons a t=>cases a;cases t;exact h x y rfl rfl rfl rfl
 ·exact n λx y z=>e ⟨x,y,z⟩
def cw_7:MtD X "str.count" be_2:=by
 intro zd s σ H x vs v us Q I rx rv h;obtain⟨EX,G,d,ds,g,r,rl,o⟩:=h;refine cr_0 r rl (λx y e1 e2 e3 e4=> ?_) λn=> ?_
 ·subst e1 e2 e3 e4;obtain⟨t,rfl⟩:=rx;obtain⟨u,rfl,t',rfl⟩:=rv.one;exact SC.count ⟨.int _,H,I.tok _,⟨_,rfl⟩,Dc o g (.int _)⟩
 ·have e:be_2 d ds=.no:=by
   unfold be_2
   split
   ·rename_i x y;exact absurd ⟨rfl,rfl⟩ (n x y)
   ·rfl
  rw [e] at o;exact o.elim
def cb_5:D->List D->R W
 | .str x,[.str y]=> .ok (.sh (.int (Txt.find x y)))
 |_,_=> .no
def df_0:MtD X "str.find" cb_5:=by
 intro zd s σ H x vs v us Q I rx rv h;obtain⟨EX,G,d,ds,g,r,rl,o⟩:=h;refine cr_0 r rl (λx y e1 e2 e3 e4=> ?_) λn=> ?_
 ·subst e1 e2 e3 e4;obtain⟨t,rfl⟩:=rx;obtain⟨u,rfl,t',rfl⟩:=rv.one;exact SC.find ⟨.int _,H,I.tok _,⟨_,rfl⟩,Dc o g (.int _)⟩
 ·have e:cb_5 d ds=.no:=by
   unfold cb_5
   split
   ·rename_i x y;exact absurd ⟨rfl,rfl⟩ (n x y)
   ·rfl
  rw [e] at o;exact o.elim
def bn_2:List D->Option (List Str)
 | []=>some []
 | .str x::ds=>(bn_2 ds).map (x:: ·)
 |_=>none
theorem cb_6{G:Hp}:∀{vs:List V} {ds:List D} {us:List Value} {ys:List Str},HasL K G vs ds->Vals vs us->bn_2 ds=some ys->StrsAre us ys
 |_,_,_,_,.nil,r,e=>by cases r;cases e;exact .nil
 |_,_,_,_,.cons h t,r,e=>by
  cases r with
  |cons r1 r2=>
   cases h with
   |str x=>
    obtain⟨t',rfl⟩:=r1;simp only [bn_2] at e;obtain⟨zs,q,rfl⟩:=Option.map_eq_some_iff.mp e;exact .cons x t' (cb_6 t r2 q)
   |_=>cases e
def aq_9:D->List D->R W
 | .str x,[.lst ds]=>match bn_2 ds with
  |some ys=>if(ys.map (·.length)).sum + ys.length * x.length<=16777216 then .ok (.sh (.str (Txt.join x ys))) else .no
  |none=> .no
 |_,_=> .no
def cb_7:MtD X "str.join" aq_9:=by
 intro zd s σ H x vs v us Q I rx rv h;obtain⟨EX,G,d,ds,g,r,rl,o⟩:=h;cases r with
 |str x=>
  cases rl with
  |nil=>exact False.elim o
  |cons a t=>
   cases t with
   |cons _ _=>cases a <;> exact False.elim o
   |nil=>
    cases a with
    |lst h r=>
     obtain⟨t,rfl⟩:=rx;obtain⟨u,rfl,ru⟩:=rv.one;cases ru;simp only [aq_9] at o
     split at o
     ·rename_i ys e
      split at o
      ·rename_i hz;obtain⟨its,rv',pl,_⟩:=I.list (g.seq h);exact join_list pl.isList (by simpa using cb_6 r rv' e) hz λt' k=>⟨.str _,H,I.tok _,⟨_,rfl⟩,Dc o g (.str _)⟩
      ·exact o.elim
     ·exact o.elim
    |_=>exact False.elim o
 |_=>cases rl <;> exact False.elim o
def De(T:String):D->Option Bool
 | .non=>some false
 | .bl _=>some (T == "bool" || T == "int")
 | .int _=>some (T == "int")
 | .str _=>some (T == "str")
 | .lst _=>some (T == "list")
 | .tup _=>some (T == "tuple")
 |_=>none
def eIs(T:String)(f:FE):FE:=λ δ=>(f δ).bind λw=>match De T w.d with
 |some k=> .ok (.sh (.bl k))
 |none=> .no
structure KitT(K:Frag)(T:String):Prop where
 non:kitOne K (.type "NoneType") (.type T)=some false
 bl:kitOne K (.type "bool") (.type T)=some (T == "bool" || T == "int")
 int:kitOne K (.type "int") (.type T)=some (T == "int")
 str:kitOne K (.type "str") (.type T)=some (T == "str")
 lst:kitOne K (.type "list") (.type T)=some (T == "list")
 tup:kitOne K (.type "tuple") (.type T)=some (T == "tuple")
def df_1{T:String}(k:KitT X.K T):Eh X (.builtin "isinstance") (λxs H Q=>∃G x d b,xs= [x,.ty T]/\Same G H/\Has X.K G x d/\De T d=some b/\Q (.bl b) H):=by
 intro zd s σ H xs us Q I rv h;obtain⟨G,x,d,b,rfl,g,r,e,q⟩:=h;obtain⟨u,u2,rfl,r1,r2⟩:=rv.two;cases r2;have fin:∀tk,EP X zd σ Q (.bool b) {s with toks:=tk}:=λtk=>⟨.bl b,H,I.tok _,rfl,q⟩;cases r with
 |non=>cases r1;exact kia_one kitx_none I.kIn True.intro (k.non.trans e) (λz=>nomatch z) fin
 |bl y=>cases r1;exact kia_one kitx_bool I.kIn True.intro (k.bl.trans e) (λz=>nomatch z) fin
 |int i=>obtain⟨t,rfl⟩:=r1;exact kia_one kitx_int I.kIn True.intro (k.int.trans e) (λz=>nomatch z) fin
 |str y=>obtain⟨t,rfl⟩:=r1;exact kia_one kitx_str I.kIn True.intro (k.str.trans e) (λz=>nomatch z) fin
 |lst h r=>
  cases r1;obtain⟨its,_,⟨ob,n,e1,c,_,_⟩,_⟩:=I.list (g.seq h);exact kia_one kitx_list I.kIn ⟨ob,e1,c⟩ (k.lst.trans e) (λz=>nomatch z) fin
 |tup h r=>
  cases r1;obtain⟨its,_,⟨ob,e1,c,_⟩,_⟩:=I.tuple (Same.tupS g h);exact kia_one kitx_tuple I.kIn ⟨ob,e1,c⟩ (k.tup.trans e) (λz=>nomatch z) fin
 |exn0 _ _=>cases e
 |exn1 _ _ _ _ _=>cases e
 |dic _ _ _=>cases e
 |obj _ _ _ _=>cases e
def be_3{Tn:Str}{T:String}{pp p3:Pos}(k:KitT X.K T)(ha:ED X EX a f)(hm:X.mg "isinstance" =none)(hmT:X.mg Tn=none)(hvT:bootBuiltins Tn=some (.type T))(hg:Gl X "isinstance" :=by rfl)(hgT:Gl X Tn:=by rfl)
  (hn:Tn≠ "__name__" :=by decide) (hdT:(Tn ==("__debug__" :Str))=false:=by decide)
  (he:starEach [a,.Name Tn p3] X.env=(false,eval a X.env)::starEach [.Name Tn p3] X.env:=by rfl) (hpl:(backTo pos (starEach [.Name Tn p3] X.env)).any (·.1)=false:=by rfl)
  (hs:starEach [.Name Tn p3] X.env=(false,eval (.Name Tn p3) X.env)::starEach [] X.env:=by rfl):ED X EX (.Call (.Name "isinstance" pp) [a,.Name Tn p3] [] pos) (eIs T f):=
 PE.imp (bd_1 (df_1 k) hg hm boot_isinstance (k_0 ha (k_0 (dm_5 (v:=.ty T) hgT hmT hvT rfl hn hdT) w_4 hs) he) (by decide) (by decide) he hpl) λ σ H Q ⟨G,δ,g0,s0,o⟩=>tD.seq g0 s0 o λw v G1 H1 _ st1 r1 o1=>by
  split at o1
  ·rename_i b e;exact⟨G1,v,w.d,b,rfl,st1.gh,r1,e,Dc o1 st1.gh (.bl b)⟩
  ·exact o1.elim
end
def be_4(K:Frag):Sp:=λvs H Q _=>∃(a:Addr) (ns:List Int),vs= [.ref a]/\SqL K H a (ns.map V.int)/\ns.length<=63/\∀H',Q (.bl true) H'
theorem cr_1{G:Hp}:∀ns:List Int,HasL K G (ns.map V.int) (ns.map D.int)
 | []=> .nil
 |n::ns=> .cons (.int n) (cr_1 ns)
def eb_6{w:World}{k:Nat}{f:Addr}{x:Str}{F:List D->R W}(h:FnX P w K mg base true k f fd [x] (Bh K 1 F))
  (hF:∀ns:List Int,ns.length<=63->∃v,F [.lst (ns.map D.int)]=.ok v/\v.d=.bl true):FnOk P w K mg base CX0 k f fd [x] (be_4 K):=by
 have hs:∀vs H Q E,be_4 K vs H Q E->Bh K 1 F vs H Q λ_ _ _=>False:=λvs H Q E q=>by
  obtain⟨a,ns,rfl,hS,hl,q⟩:=q;obtain⟨v,e,ev⟩:=hF ns hl;refine⟨rfl,H,[.lst (ns.map D.int)],Same.refl _,.cons (.lst hS (cr_1 ns)) .nil, ?_⟩;rw [e];refine WP.intro λu G' H' st r=> ?_;rw [ev] at r;cases r;exact q H'
 refine⟨λvs H Q E q=>(hs vs H Q E q).1,λA outer s H args us vs Q E hr e0 hb hv q=>codeAny_mono (h.run A outer s H args us vs Q _ (RoomC.of hr) e0 hb hv (hs vs H Q E q)) λr s' hq=> ?_⟩;cases r with
 |error e=>
  obtain⟨a,C,dx,T,H',_,_,_,_,_,_,_,_,_,_,z⟩:=hq;exact z
 |ok fl=>cases fl <;> exact hq
def ei_6{l:PySem.W.OpenLaw}{q:Program}{loose:List Str}{XP:(Str->Option Value)->Heap->Prop}{YP:World->Heap->Prop}{d:DefRec}{K:Params->Frag}{x:Str}{k:Nat}(hn:l.most=some 63)(hdf:d.params.defaults= [])(hr:Room k callerA)
  (hY:∀(w:World) (h:Heap),YP w h->(K w.params).In h)
  (F:∀(w:World) (mg:Str->Option Value) (fa:Addr) (h:Heap),(K w.params).In h->h.Ns mainGlobals mg->mg d.name=some (.ref fa)->
   ∃fd:FuncData,(∀(s:Shared) (u:Value),BindsTo s fd ⟨[u],[]⟩ [(x,u)])/\∀base:Heap,(K w.params).In base->base.Ns mainGlobals mg->FnOk l.prog w (K w.params) mg base CX0 k fa fd [x] (be_4 (K w.params))):
  PySem.W.WalkO q loose XP YP l.row.toRowW d [] (λf vs=>PySem.call f vs):=
 do_3 (n:=63) (k:=k) (x:=x) (CX:=λ_=>CX0) (sp:=λw=>be_4 (K w.params)) hn (by decide) hdf hr hY F (λ_ _ a ns hl _ hS=>⟨a,ns,rfl,hS,hl,λ_=>rfl⟩) λ_ _ _ _ _ z=>z
def Inv.pair{zd:List (Addr×Obj)}{σ:Sg}{s:Shared}{e it:Addr}{h':Heap}{tk:Nat}{its:List Value}(I:Inv X zd σ H s)(fe:Dy X zd H e)(fi:Dy X zd H it)
  (k:∀b o,b≠e->b≠it->s.heap.get? b=some o->h'.get? b=some o) (he:∃o,h'.get? e=some o) (hi:∃o,h'.get? it=some o) (ht:h'.get? s.heap.objs.size=some {cls:=.type "tuple",data:=.seq its.toArray}) (rv:Vals vs its) (hz:vs.length<=sizeLine):
  Inv X zd σ (upd H s.heap.objs.size (.tup vs)) {s with heap:=h',toks:=tk}:=by
 have hn:H s.heap.objs.size=none:=I.hok.fresh (Nat.le_refl _);obtain⟨e0,e1,e2,e3,e4,e5⟩:=fe;obtain⟨i0,i1,i2,i3,i4,i5⟩:=fi;have neH:∀b u,H b=some u->b≠e/\b≠it:=λb u q=>⟨λz=>(by rw [z,e0] at q;cases q),λz=>(by rw [z,i0] at q;cases q)⟩;have lt:∀b o,s.heap.get? b=some o->b≠s.heap.objs.size:=λb o q=>Nat.ne_of_lt (Heap.lt_size q);refine I.step (g':=s.gens) (d':=s.drawn) (ch:=[e,it]) (λb hb=> ?_) (λb o _ _ hc q _=>k b o (λz=>hc (by simp [z])) (λz=>hc (by simp [z])) q)
  (λb o _ _ hc q _=>⟨o.slots,k b o (λz=>hc (by simp [z])) (λz=>hc (by simp [z])) q⟩) (λb o _ q n=>by rw [Bm (lt b o q)];exact n) (λb o hc q=>⟨o,k b o (λz=>hc (by simp [z])) (λz=>hc (by simp [z])) q⟩)
  (λb xs q=>by rw [Bm (Fz q hn)];exact q) (λb o u q=>by rw [Bm (Fz q hn)];exact q) (λb ps q=>⟨#[],by rw [Bm (Fz q hn),q];simp⟩) (λm hm=> ?_) (λb u q=> ?_) I.bare
 ·have hb':b=e\/b=it:=by simpa using hb
  rcases hb' with rfl|rfl
  ·exact⟨e3,e1,e4,e5⟩
  ·exact⟨i3,i1,i4,i5⟩
 ·obtain⟨o,es,ep,ho,r⟩:=hm;exact⟨o,es,ep,k _ o (Ne.symm e1) (Ne.symm i1) ho,r⟩
 ·by_cases z:b=s.heap.objs.size
  ·subst z;rw [Cs] at q;cases q;exact⟨hz,its,rv,⟨_,ht,rfl,0,rfl⟩⟩
  ·rw [Bm z] at q;refine(I.hok b u q).stay (λc v hc r=> ?_) (λc r=>by rw [Bm (Fz r hn)];exact r) λc xs r=>by rw [Bm (Fz r hn)];exact r
   rcases hc with rfl|hc
   ·exact k c v (neH c u q).1 (neH c u q).2 r
   ·exact k c v (neH c _ hc).1 (neH c _ hc).2 r
def Inv.turned2{zd:List (Addr×Obj)}{σ:Sg}{s:Shared}{e it:Addr}{h':Heap}{tk:Nat}(I:Inv X zd σ H s)(fe:Dy X zd H e)(fi:Dy X zd H it)
  (k:∀b o,b≠e->b≠it->s.heap.get? b=some o->h'.get? b=some o):Inv X zd σ H {s with heap:=h',toks:=tk}:=by
 obtain⟨e0,e1,e2,e3,e4,e5⟩:=fe;obtain⟨i0,i1,i2,i3,i4,i5⟩:=fi;have neH:∀b u,H b=some u->b≠e/\b≠it:=λb u q=>⟨λz=>(by rw [z,e0] at q;cases q),λz=>(by rw [z,i0] at q;cases q)⟩;refine I.step (g':=s.gens) (d':=s.drawn) (ch:=[e,it]) (λb hb=> ?_) (λb o _ _ hc q _=>k b o (λz=>hc (by simp [z])) (λz=>hc (by simp [z])) q)
  (λb o _ _ hc q _=>⟨o.slots,k b o (λz=>hc (by simp [z])) (λz=>hc (by simp [z])) q⟩) (λb o _ q n=>n) (λb o hc q=>⟨o,k b o (λz=>hc (by simp [z])) (λz=>hc (by simp [z])) q⟩)
  (λb xs q=>q) (λb o u q=>q) (λb ps q=>⟨#[],by rw [q];simp⟩) (λm hm=> ?_) (λb u q=> ?_) I.bare
 ·have hb':b=e\/b=it:=by simpa using hb
  rcases hb' with rfl|rfl
  ·exact⟨e3,e1,e4,e5⟩
  ·exact⟨i3,i1,i4,i5⟩
 ·obtain⟨o,es,ep,ho,r⟩:=hm;exact⟨o,es,ep,k _ o (Ne.symm e1) (Ne.symm i1) ho,r⟩
 ·refine(I.hok b u q).stay (λc v hc r=> ?_) (λc r=>r) λc xs r=>r;rcases hc with rfl|hc
  ·exact k c v (neH c u q).1 (neH c u q).2 r
  ·exact k c v (neH c _ hc).1 (neH c _ hc).2 r
def enL(K:Frag)(l:Addr):It:=
 ⟨λi H=>∃xs x,SqL K H l xs/\xs[i]? =some x,λi H v H'=>∃p,H p=none/\v=.ref p/\∀xs x,SqL K H l xs->xs[i]? =some x->H'=upd H p (.tup [.int (i:Int),x]),λi H=>∃xs,SqL K H l xs/\xs.length=i⟩
def enS(z:Str):It:=
 ⟨λi _=>i < z.cps.size,λi H v H'=>∃p c,H p=none/\v=.ref p/\z.cps[i]? =some c/\H'=upd H p (.tup [.int (i:Int),.str ⟨#[c]⟩]),λi _=>i=z.cps.size⟩
def df_2{w:World}{elts:List Expr}{x1:Nat}(e it l:Addr)(hei:e≠it):Turn P w K (.Tuple elts x1 pos) (enL K l) [e,it] e (λi h=>(∃old,IsEnum h e it (i:Int) old)/\h.IsListIter it l i) where
 mem:=by simp
 obj:=λi h st b hb=>by
  have hb':b=e\/b=it:=by simpa using hb
  rcases hb' with rfl|rfl
  ·obtain⟨⟨old,q⟩,_⟩:=st;exact⟨_,q,λv z=>by cases z⟩
  ·obtain⟨_,⟨o,q,c,d⟩⟩:=st;exact⟨o,q,λv z=>by rw [d] at z;cases z⟩
 keep:=λi h h' st k=>by
  obtain⟨⟨old,q⟩,r⟩:=st;exact⟨⟨old,k e (by simp) _ q⟩,r.at λo z=>k it (by simp) o z⟩
 item:=by
  intro X hP hw hK hc i zd s σ H E I hf st hg;subst hP hw hK;obtain⟨xs,x,hq,hx⟩:=hg;obtain⟨its,rv,p,hz⟩:=I.list hq;obtain⟨u,hu,ru⟩:=rv.get hx;obtain⟨⟨old,he⟩,hit⟩:=st;have fe:=hf e (by simp);have fi:=hf it (by simp);have pl:=p.isList;have nle:l≠e:=λz=>by
   subst z;obtain⟨o,ho,hc',_⟩:=pl;rw [show s.heap.get? l=_ from he] at ho;cases ho;exact absurd hc' (by simp)
  have nli:l≠it:=λz=>by
   subst z;obtain⟨o,ho,hc',_⟩:=pl;obtain⟨o',ho',hc2,_⟩:=hit;rw [ho] at ho';cases ho';rw [hc'] at hc2;exact absurd hc2 (by simp)
  have hlt:i < its.toArray.size:=by
   have:=(List.getElem?_eq_some_iff.mp hu).1;simpa using this
  refine wpAny_pyNext_enum_itemD (Draws.list (A:=X.A.in1) (I.ok.hd hc) it l nli its.toArray) he ⟨hit,pl⟩ hlt hei (by simp [hei,Ne.symm nle]) λy h' tk hy ho hst cj hsz kk=> ?_;have ey:y=u:=by
   have:its.toArray[i]? =some u:=by simpa using hu
   rw [this] at hy;exact(Option.some.inj hy).symm
  subst ey;refine⟨_,rfl,wpAny_letOwnedTupleGo_enum ho λh'' bb sb=> ?_⟩;have ay:∃old,IsEnum h'' e it ((i + 1:Nat):Int) old:=⟨_,by
   have e1:((i + 1:Nat):Int)=(i:Int) + 1:=by omega
   rw [e1];exact bb⟩
  refine⟨.ref s.heap.objs.size,upd H s.heap.objs.size (.tup [.int (i:Int),x]), ?_,rfl,⟨_,I.hok.fresh (Nat.le_refl _),rfl,λys y' hy' ey'=> ?_⟩,⟨ay, ?_⟩,λb hb=> ?_⟩
  ·have ne:s.heap.objs.size≠e:=λz=>absurd (Heap.lt_size he) (by rw [<-z];exact Nat.lt_irrefl _);refine Inv.pair (its:=[.int (i:Int) tk,y]) I fe fi (λb o h1 h2 q=>(sb.2 b h1).trans (kk b o h1 h2 q)) ⟨_,bb⟩ ?_ ((sb.2 _ ne).trans cj) (.cons ⟨_,rfl⟩ (.cons ru .nil)) (by show 2<=sizeLine;decide);obtain⟨⟨o,q,_⟩,_⟩:=hst;exact⟨o,(sb.2 it (Ne.symm hei)).trans q⟩
  ·have:=I.list_inj hy' hq;subst this;rw [hx] at ey';cases ey';rfl
  ·exact hst.1.at λo z=>(sb.2 it (Ne.symm hei)).trans z
  ·have hb':b=e\/b=it:=by simpa using hb
   have hbl:b < s.heap.objs.size:=by
    rcases hb' with rfl|rfl
    ·exact Heap.lt_size he
    ·obtain⟨o,q,_⟩:=hit;exact Heap.lt_size q
   rw [Bm (Nat.ne_of_lt hbl)];exact(hf b hb).1
 done:=by
  intro X hP hw hK hc i zd s σ H E I hf st hg;subst hP hw hK;obtain⟨xs,hq,hx⟩:=hg;obtain⟨its,rv,p,hz⟩:=I.list hq;obtain⟨⟨old,he⟩,hit⟩:=st;have hl:=rv.length;have pl:=p.isList;have nli:l≠it:=λz=>by
   subst z;obtain⟨o,ho,hc',_⟩:=pl;obtain⟨o',ho',hc2,_⟩:=hit;rw [ho] at ho';cases ho';rw [hc'] at hc2;exact absurd hc2 (by simp)
  have en:i=its.toArray.size:=by simp;omega
  refine wpAny_pyNext_enum_endD (Draws.list (A:=X.A.in1) (I.ok.hd hc) it l nli its.toArray) he (by rw [<-en];exact⟨hit,pl⟩) λh' eb=>⟨rfl, ?_⟩;exact Inv.turned2 (tk:=s.toks) I (hf e (by simp)) (hf it (by simp)) λb o h1 h2 q=>eb b o h2 q
 self:=λA i s Q E st h=>by
  obtain⟨⟨old,he⟩,_⟩:=st;exact wpAny_pyIter_enum he h
def bn_3{prog:Program}{w:World}{A:Around}(hh:A.handled=none)(it:Addr)(x:Str)(t:Tok):
  Draws prog w A it [it] x.cps.size (λi v=>∃c u,x.cps[i]? =some c/\v=.str ⟨#[c]⟩ u) (λi h=>h.IsStrIter it (strIterType x) x t i):=by
 unfold strIterType;cases ha:x.cps.all (· < 128)
 ·exact Draws.strWide hh it x t
 ·exact Draws.strAscii hh it x t
def df_3{w:World}{elts:List Expr}{x1:Nat}(e it:Addr)(z:Str)(t:Tok)(hei:e≠it):Turn P w K (.Tuple elts x1 pos) (enS z) [e,it] e (λi h=>(∃old,IsEnum h e it (i:Int) old)/\h.IsStrIter it (strIterType z) z t i) where
 mem:=by simp
 obj:=λi h st b hb=>by
  have hb':b=e\/b=it:=by simpa using hb
  rcases hb' with rfl|rfl
  ·obtain⟨⟨old,q⟩,_⟩:=st;exact⟨_,q,λv z=>by cases z⟩
  ·obtain⟨_,⟨o,q,c,d⟩⟩:=st;exact⟨o,q,λv z=>by rw [d] at z;cases z⟩
 keep:=λi h h' st k=>by
  obtain⟨⟨old,q⟩,⟨o,r,c⟩⟩:=st;exact⟨⟨old,k e (by simp) _ q⟩,⟨o,k it (by simp) o r,c⟩⟩
 item:=by
  intro X hP hw hK hc i zd s σ H E I hf st hg;subst hP hw hK;obtain⟨⟨old,he⟩,hit⟩:=st;have fe:=hf e (by simp);have fi:=hf it (by simp);refine wpAny_pyNext_enum_itemD (bn_3 (A:=X.A.in1) (I.ok.hd hc) it z t) he hit hg hei (by simp [hei]) λy h' tk hy ho hst cj hsz kk=> ?_;obtain⟨c,uc,hcx,rfl⟩:=hy;refine⟨_,rfl,wpAny_letOwnedTupleGo_enum ho λh'' bb sb=> ?_⟩;have ay:∃old,IsEnum h'' e it ((i + 1:Nat):Int) old:=⟨_,by
   have e1:((i + 1:Nat):Int)=(i:Int) + 1:=by omega
   rw [e1];exact bb⟩
  refine⟨.ref s.heap.objs.size,upd H s.heap.objs.size (.tup [.int (i:Int),.str ⟨#[c]⟩]), ?_,rfl,⟨_,c,I.hok.fresh (Nat.le_refl _),rfl,hcx,rfl⟩,⟨ay, ?_⟩,λb hb=> ?_⟩
  ·have ne:s.heap.objs.size≠e:=λz=>absurd (Heap.lt_size he) (by rw [<-z];exact Nat.lt_irrefl _);refine Inv.pair (its:=[.int (i:Int) tk,.str ⟨#[c]⟩ uc]) I fe fi (λb o h1 h2 q=>(sb.2 b h1).trans (kk b o h1 h2 q)) ⟨_,bb⟩ ?_ ((sb.2 _ ne).trans cj) (.cons ⟨_,rfl⟩ (.cons ⟨_,rfl⟩ .nil)) (by show 2<=sizeLine;decide);obtain⟨o,q,_⟩:=hst;exact⟨o,(sb.2 it (Ne.symm hei)).trans q⟩
  ·obtain⟨o,q,r⟩:=hst;exact⟨o,(sb.2 it (Ne.symm hei)).trans q,r⟩
  ·have hb':b=e\/b=it:=by simpa using hb
   have hbl:b < s.heap.objs.size:=by
    rcases hb' with rfl|rfl
    ·exact Heap.lt_size he
    ·obtain⟨o,q,_⟩:=hit;exact Heap.lt_size q
   rw [Bm (Nat.ne_of_lt hbl)];exact(hf b hb).1
 done:=by
  intro X hP hw hK hc i zd s σ H E I hf st hg;subst hP hw hK;obtain⟨⟨old,he⟩,hit⟩:=st;have en:i=z.cps.size:=hg;refine wpAny_pyNext_enum_endD (bn_3 (A:=X.A.in1) (I.ok.hd hc) it z t) he (by rw [<-en];exact hit) λh' eb=>⟨rfl, ?_⟩;exact Inv.turned2 (tk:=s.toks) I (hf e (by simp)) (hf it (by simp)) λb o h1 h2 q=>eb b o h2 q
 self:=λA i s Q E st h=>by
  obtain⟨⟨old,he⟩,_⟩:=st;exact wpAny_pyIter_enum he h
def Fg(k:Nat):List D->List D
 | []=> []
 |d::ds=> .tup [.int (k:Int),d]::Fg (k + 1) ds
theorem p_9:∀{ds:List D} {k i:Nat} {d:D},(Fg k ds)[i]? =some d->∃d',ds[i]? =some d'/\d=.tup [.int ((k + i:Nat):Int),d']
 | [],_,_,_,h=>by simp [Fg] at h
 |x::ds,k,0,d,h=>by simp [Fg] at h;exact⟨x,rfl,h.symm⟩
 |x::ds,k,i + 1,d,h=>by
  obtain⟨d',e1,e2⟩:=p_9 (ds:=ds) (k:=k + 1) (i:=i) (by simpa [Fg] using h);exact⟨d',by simpa using e1,by rw [e2,show k + 1 + i=k + (i + 1) by omega]⟩
theorem au_5:∀(ds:List D) (k:Nat),(Fg k ds).length=ds.length
 | [],_=>rfl
 |_::ds,k=>by simp [Fg,au_5 ds (k + 1)]
def au_6:D->R (List D)
 | .lst ds=> .ok (Fg 0 ds)
 | .str x=> .ok (Fg 0 (t_8 x))
 |_=> .no
def u_8(f:FE):FI:=λ δ=>(f δ).bind λw=>au_6 w.d
section
variable{X:Cx}{EX:Bo}{a:Expr}{f:FE}{elts:List Expr}{x1:Nat}{tp p pos:Pos}
def iEn(K:Frag)(t:TA):TI:=λ σ H Q=>t σ H λvs H1=>(∃l,vs= [.ref l]/\(∃xs,SqL K H1 l xs)/\Q (enL K l) H1)\/(∃z,vs= [.str z]/\Q (enS z) H1)
def dp_9{ta:TA}(hg:Gl X "enumerate")(hm:X.mg "enumerate" =none)(ha:PA X [a] ta)(hs:starEach [a] X.env= [(false,eval a X.env)]:=by rfl):PI X (.Tuple elts x1 tp) (.Call (.Name "enumerate" p) [a] [] pos) (iEn X.K ta):=by
 intro zd s σ H Q I h;refine Call_ (ah_3 I hg hm PyProof.Rows.boot_enumerate (PyProof.Rows.callWith_type1 (Bi (ha pos zd s σ H _ I h) λus s1 ⟨vs,H1,I1,r1,q1⟩=> ?_) hs rfl));rcases q1 with⟨l,rfl,⟨xs,hq⟩,q⟩|⟨z,rfl,q⟩
 ·obtain⟨u,rfl,ru⟩:=r1.one;cases ru;obtain⟨its,rv,pl,hz⟩:=I1.list hq;refine call_enumerate_list pl.isList λh' he hit hsz kk=>wpAny_pyIter_enum he ?_;refine⟨s1.heap.objs.size + 1,[s1.heap.objs.size + 1,s1.heap.objs.size],_,enL X.K l,H1,rfl,I1.kept (t':=s1.toks) kk,df_2 _ _ l (Nat.succ_ne_self _),⟨⟨_,he⟩,hit⟩,λb hb=> ?_,q⟩;have hb':b=s1.heap.objs.size + 1\/b=s1.heap.objs.size:=by simpa using hb
  have hbl:s1.heap.objs.size<=b:=by
   rcases hb' with rfl|rfl
   ·exact Nat.le_succ _
   ·exact Nat.le_refl _
  exact I1.fpOk hbl (I1.hok.fresh hbl)
 ·obtain⟨u,rfl,t,rfl⟩:=r1.one;refine call_enumerate_str λh' he hit hsz kk=>wpAny_pyIter_enum he ?_;refine⟨s1.heap.objs.size + 1,[s1.heap.objs.size + 1,s1.heap.objs.size],_,enS z,H1,rfl,I1.kept (t':=s1.toks) kk,df_3 _ _ z t (Nat.succ_ne_self _),⟨⟨_,he⟩,hit⟩,λb hb=> ?_,q⟩;have hb':b=s1.heap.objs.size + 1\/b=s1.heap.objs.size:=by simpa using hb
  have hbl:s1.heap.objs.size<=b:=by
   rcases hb' with rfl|rfl
   ·exact Nat.le_succ _
   ·exact Nat.le_refl _
  exact I1.fpOk hbl (I1.hok.fresh hbl)
def dq_0{G:Hp}{l:Addr}{ds:List D}(h:SqL K G l vs)(r:HasL K G vs ds):ItD K G (enL K l) (Fg 0 ds):=λG' H g1 g i=>by
 refine⟨λd e=> ?_,λe=> ?_⟩
 ·obtain⟨d',e1,rfl⟩:=p_9 e;obtain⟨v,e2,hv⟩:=r.get e1;refine⟨⟨vs,v,(g1.trans g).seq h,e2⟩,λx H' y=> ?_⟩;obtain⟨p,hp,rfl,y⟩:=y;have:=y vs v ((g1.trans g).seq h) e2;subst this;refine⟨_,Step.new g hp _,.tup (SqT.of Cs) (.cons (by rw [Nat.zero_add];exact .int _) (.cons (hv.mono (g1.trans (o_0 (g.free hp) _))) .nil))⟩
 ·rw [au_5] at e;exact⟨vs,(g1.trans g).seq h,by rw [r.length];exact e⟩
def dq_1{G:Hp}(z:Str):ItD K G (enS z) (Fg 0 (t_8 z)):=λG' H g1 g i=>by
 refine⟨λd e=> ?_,λe=> ?_⟩
 ·obtain⟨d',e1,rfl⟩:=p_9 e;unfold t_8 at e1;rw [List.getElem?_map] at e1;cases q:z.cps.toList[i]? with
  |none=>rw [q] at e1;cases e1
  |some c=>
   rw [q] at e1;cases e1;have hi:i < z.cps.size:=by
    have:=(List.getElem?_eq_some_iff.mp q).1;simpa using this
   refine⟨hi,λx H' y=> ?_⟩;obtain⟨p,c',hp,rfl,hc,rfl⟩:=y;have:z.cps.toList[i]? =some c':=by simpa using hc
   rw [q] at this;cases this;refine⟨_,Step.new g hp _,.tup (SqT.of Cs) (.cons (by rw [Nat.zero_add];exact .int _) (.cons (.str _) .nil))⟩
 ·rw [au_5] at e;unfold t_8 at e;rw [List.length_map] at e;show i=z.cps.size;simp at e;omega
def ak_4(hm:X.mg "enumerate" =none)(he:ED X EX a f)(hg:Gl X "enumerate" :=by rfl)(hs:starEach [a] X.env= [(false,eval a X.env)]:=by rfl)(hs1:starEach [a] X.env=(false,eval a X.env)::starEach [] X.env:=by rfl):
  ID X EX (.Tuple elts x1 tp) (.Call (.Name "enumerate" p) [a] [] pos) (u_8 f):=
 PI.imp (dp_9 hg hm (k_0 he w_4 hs1) hs) λ σ H Q ⟨G,δ,g0,s0,o⟩=>by
  refine⟨G,δ,g0,s0, ?_⟩;unfold u_8 at o;cases e1:f δ with
  |ok w=>
   rw [e1] at o;simp only [R.bind_ok] at o;refine WP.intro λv G' H' st r=> ?_;revert r o;cases w.d with
   |lst ds=>
    intro o r;cases r with
    |lst h r=>exact .inl ⟨_,rfl,⟨_,st.gh.seq h⟩,o _ G' H' st (dq_0 h r)⟩
   |str z=>
    intro o r;cases r;exact .inr ⟨z,rfl,o _ G' H' st (dq_1 z)⟩
   |_=>intro o _;exact False.elim o
  |ex x=>rw [e1] at o;exact o
  |no=>rw [e1] at o;exact o
end
def C3(i j c:Int):Prop:=0<=i/\i.natAbs < 1073741824/\j.natAbs < 1073741824/\0 < c/\c.natAbs < 1073741824
instance (i j c:Int):Decidable (C3 i j c):=by unfold C3;exact inferInstance
section
variable{X:Cx}{EX:Bo}{tg a b c:Expr}{fa:FA}{ta:TA}{p pos:Pos}
end
section
variable{X:Cx}{EX:Bo}{a:Expr}{f:FE}{pos:Pos}
def au_7:List D->Option (List Bool)
 | []=>some []
 | .bl b::ds=>(au_7 ds).map (b:: ·)
 |_=>none
def allD:List D->R W
 | [.lst ds]=>match au_7 ds with
  |some bs=> .ok (.sh (.bl (bs.all id)))
  |none=> .no
 |_=> .no
theorem cb_8{G:Hp}:∀{vs:List V} {ds:List D} {us:List Value} {bs:List Bool},HasL K G vs ds->Vals vs us->au_7 ds=some bs->us=bs.map Value.bool
 |_,_,_,_,.nil,r,e=>by cases r;cases e;rfl
 |_,_,_,_,.cons h t,r,e=>by
  cases r with
  |cons r1 r2=>
   cases h with
   |bl x=>
    cases r1;simp only [au_7] at e;obtain⟨zs,q,rfl⟩:=Option.map_eq_some_iff.mp e;rw [List.map_cons,cb_8 t r2 q]
   |_=>cases e
def cw_8(bs:List Bool):(List.range bs.length).all (λi=>bs.getD i true)=bs.all id:=by
 rw [Bool.eq_iff_iff,List.all_eq_true,List.all_eq_true];constructor
 ·intro h b hb;obtain⟨i,hi,e⟩:=List.getElem_of_mem hb;have:=h i (List.mem_range.mpr hi);simp [hi] at this;rw [<-e];exact this
 ·intro h i hi;have hi:=List.mem_range.mp hi;simp [hi];exact h _ (List.getElem_mem hi)
def cw_9(hc:X.calm=true):z_3 X (.builtin "all") allD:=by
 intro zd s σ H vs us Q I rv q;obtain⟨EX,G,ds,g,r,o⟩:=q;cases r with
 |nil=>exact False.elim o
 |cons h t=>
  cases t with
  |cons _ _=>cases h <;> exact False.elim o
  |nil=>
   cases h with
   |lst h r=>
    rename_i l _ _;simp only [allD] at o
    split at o
    ·rename_i bs e;obtain⟨u,rfl,ru⟩:=rv.one;cases ru;obtain⟨its,rv',pl,hz⟩:=I.list (g.seq h);have eb:=cb_8 r rv' e;subst eb;have nl:l≠s.heap.objs.size:=λz=>by
      obtain⟨o',ho,_⟩:=pl.isList;exact absurd (Heap.lt_size ho) (by rw [<-z];exact Nat.lt_irrefl _)
     refine call_all_walk (wpAny_pyIter_list pl.isList ⟨s.heap.objs.size,_,_,_,_,_,λi=>bs.getD i true,rfl,Walks.list (A:=X.A.in1) (I.ok.hd hc) s.heap.objs.size l nl (bs.map Value.bool).toArray,⟨⟨_,Heap.get?_push_size _ rfl,rfl,rfl⟩, ?_⟩,λi v s' Q' E' hP hQ=> ?_,λh' tk kk=> ?_⟩)
     ·exact pl.isList.at λo z=>Heap.get?_push_of_some _ z
     ·have hP':(bs.map Value.bool)[i]? =some v:=by simpa using hP
      rw [List.getElem?_map] at hP';cases q:bs[i]? with
      |none=>rw [q] at hP';cases hP'
      |some b=>
       rw [q] at hP';cases hP';have:bs.getD i true=b:=by simp [List.getD,q]
       dsimp only at hQ;rw [this] at hQ;exact wpAny_truthy_bool hQ
     ·have en:(bs.map Value.bool).toArray.size=bs.length:=by simp
      rw [en,cw_8];refine⟨.bl _,H,I.kept (t':=tk) λb o' z=>kk b o' (by
       have hb:b≠s.heap.objs.size:=Nat.ne_of_lt (Heap.lt_size z);simpa using hb) (Heap.get?_push_of_some _ z),rfl,Dc o g (.bl _)⟩
    ·exact o.elim
   |_=>exact False.elim o
end
section
variable{prog:Program}{w:World}{A:Around}{E:Value->Shared->Prop}{s:Shared}
end
section
variable{X:Cx}{EX:Bo}{pos:Pos}
def HasS.skip{G:Hp}{σ:Sg}{δ:DE}{i:Nat}(h:HasS K G σ δ)(e:δ[i]? =some none):HasS K G (σ.set i (some v)) δ:=by
 refine⟨by rw [List.length_set];exact h.len,λj d' e'=> ?_⟩;obtain⟨v',e1,r'⟩:=h.get j d' e';refine⟨v', ?_,r'⟩;rw [List.getElem?_set_ne]
 ·exact e1
 ·rintro rfl
  rw [e] at e';cases e'
end
section
variable{X:Cx}{EX:Bo}
def nonB:D->Bool
 | .non=>true
 |_=>false
def isND(neg:Bool):D->D->R W
 |d,.non=> .ok (.sh (.bl (if neg then !nonB d else nonB d)))
 |_,_=> .no
def eb_7{G:Hp}{d:D}(r:Has K G v d):decide (v=.non)=nonB d:=by
 cases r <;> rfl
def df_5:Fa X (compareOp .IsNot) (isND true):=by
 intro zd s σ H x y v u Q I rx ry q;obtain⟨EX,G,a,b,g,ra,rb,o⟩:=q;cases rb with
 |non=>exact dn_1 zd s σ H _ _ _ _ Q I rx ry ⟨rfl,by rw [eb_7 ra];exact Dc o g (.bl _)⟩
 |_=>exact False.elim o
end
def Itv(K:Frag)(a:Addr)(xs:List V):It:=⟨λi H=>SqL K H a xs/\i < xs.length,λi H x H'=>H'=H/\xs[xs.length - 1 - i]? =some x,λi _=>i=xs.length⟩
def df_6{w:World}{tg:Expr}(a it:Addr)(xs:List V):Turn P w K tg (Itv K a xs) [it] it (λi h=>h.IsRevIter it a ((xs.length:Int) - 1 - (i:Int))) where
 mem:=by simp
 obj:=λi h st b hb=>by
  have e:b=it:=by simpa using hb
  subst e;obtain⟨o,e,c,d⟩:=st;exact⟨o,e,λv z=>by rw [d] at z;cases z⟩
 keep:=λi h h' st k=>st.at λo e=>k it (by simp) o e
 item:=by
  intro X hP hw hK hc i zd s σ H E I hf st hg;subst hP hw hK;obtain⟨hq,hlt⟩:=hg;obtain⟨its,rv,p,hz⟩:=I.list hq;obtain⟨f0,f1,f2,f3,f4,f5⟩:=hf it (by simp);have e:(xs.length:Int) - 1 - (i:Int)=((xs.length - 1 - i:Nat):Int):=by omega
  rw [e] at st;obtain⟨x,hx⟩:∃x,xs[xs.length - 1 - i]? =some x:=⟨_,List.getElem?_eq_getElem (by omega)⟩;obtain⟨u,hu,ru⟩:=rv.get hx;refine wpAny_pyNext_rev_item st p.isList (x:=u) (by simpa using hu) λh' st' sb=> ?_;have I1:Inv X zd σ H {s with heap:=h'}:=I.turned (t':=s.toks) (λb o hb e=>(sb.2 b hb).trans e) f0 f1 f3 f4 f5;have e2:((xs.length - 1 - i:Nat):Int) - 1=(xs.length:Int) - 1 - ((i + 1:Nat):Int):=by omega
  rw [e2] at st';obtain⟨o,e,c,d⟩:=id st';exact⟨u,rfl,bz_2 (s:={s with heap:=h'}) e c d (by decide) ⟨x,H,I1,ru,⟨rfl,hx⟩,st',λb hb=>(hf b hb).1⟩⟩
 done:=by
  intro X hP hw hK hc i zd s σ H E I hf st hg;subst hP hw hK;have hg:i=xs.length:=hg;subst hg;obtain⟨f0,f1,f2,f3,f4,f5⟩:=hf it (by simp);have e:(xs.length:Int) - 1 - (xs.length:Int)= -1:=by omega
  rw [e] at st;exact wpAny_pyNext_rev_end (I.ok.hd hc) st λh' eb=>⟨rfl,I.turned (t':=s.toks) (λb o hb e=>eb b o hb e) f0 f1 f3 f4 f5⟩
 self:=λ_ _ _ _ _ st h=>wpAny_pyIter_revIter st h
def dw_1:D->R (List D)
 | .lst ds=> .ok ds.reverse
 |_=> .no
def iRev(f:FE):FI:=λ δ=>(f δ).bind λw=>dw_1 w.d
def dq_2{G:Hp}{l:Addr}{ds:List D}(h:SqL K G l vs)(r:HasL K G vs ds):ItD K G (Itv K l vs) ds.reverse:=λG' H g1 g i=>by
 have hl:=r.length;refine⟨λd e=> ?_,λe=> ?_⟩
 ·have hi:i < ds.length:=by
   have:=(List.getElem?_eq_some_iff.mp e).1;simpa using this
  rw [List.getElem?_reverse hi] at e;obtain⟨v,e2,hv⟩:=r.get e;refine⟨⟨(g1.trans g).seq h,by omega⟩,λx H' y=> ?_⟩;obtain⟨e3,y⟩:=y;subst e3;rw [hl,e2] at y;cases y;exact⟨G',Step.refl g,hv.mono g1⟩
 ·rw [List.length_reverse] at e;show i=vs.length;omega
section
variable{X:Cx}{EX:Bo}{tg a b:Expr}{f g:FE}{fa:FA}{p pos:Pos}
def iRv(K:Frag)(t:TA):TI:=λ σ H Q=>t σ H λvs H1=>∃l xs,vs= [.ref l]/\SqL K H1 l xs/\Q (Itv K l xs) H1
def eb_8{ta:TA}(hg:Gl X "reversed")(hm:X.mg "reversed" =none)(ha:PA X [a] ta)(hs:starEach [a] X.env= [(false,eval a X.env)]:=by rfl):PI X tg (.Call (.Name "reversed" p) [a] [] pos) (iRv X.K ta):=by
 intro zd s σ H Q I h;refine Call_ (ah_3 I hg hm PyProof.Rows.boot_reversed (PyProof.Rows.callWith_type1 (Bi (ha pos zd s σ H _ I h) λus s1 ⟨vs,H1,I1,r1,q1⟩=> ?_) hs rfl));obtain⟨l,xs,rfl,hq,q⟩:=q1;obtain⟨u,rfl,ru⟩:=r1.one;cases ru;obtain⟨its,rv,pl,hz⟩:=I1.list hq;have hl:=rv.length;refine call_reversed_list pl.isList ?_;refine wpAny_pyIter_revIter (i:=(its.toArray.size:Int) - 1) ⟨_,Heap.get?_push_size _ rfl,rfl,rfl⟩ ?_;refine⟨s1.heap.objs.size,[s1.heap.objs.size],_,Itv X.K l xs,H1,rfl,I1.kept (t':=s1.toks) λb o e=>Heap.get?_push_of_some _ e,df_6 l _ xs,⟨_,Heap.get?_push_size _ rfl,rfl, ?_⟩,λb hb=> ?_,q⟩
 ·have e:(xs.length:Int) - 1 - ((0:Nat):Int)=(its.toArray.size:Int) - 1:=by simp;omega
  rw [e];rfl
 ·have e:b=s1.heap.objs.size:=by simpa using hb
  subst e;exact I1.fpOk (Nat.le_refl _) (I1.hok.fresh (Nat.le_refl _))
def eb_9(hm:X.mg "reversed" =none)(he:ED X EX a f)(hg:Gl X "reversed" :=by rfl)(hs:starEach [a] X.env= [(false,eval a X.env)]:=by rfl)(hs1:starEach [a] X.env=(false,eval a X.env)::starEach [] X.env:=by rfl):
  ID X EX tg (.Call (.Name "reversed" p) [a] [] pos) (iRev f):=
 PI.imp (eb_8 hg hm (k_0 he w_4 hs1) hs) λ σ H Q ⟨G,δ,g0,s0,o⟩=>by
  refine⟨G,δ,g0,s0, ?_⟩;unfold iRev at o;cases e1:f δ with
  |ok w=>
   rw [e1] at o;simp only [R.bind_ok] at o;refine WP.intro λv G' H' st r=> ?_;revert r o;cases w.d with
   |lst ds=>
    intro o r;cases r with
    |lst h r=>exact⟨_,_,rfl,st.gh.seq h,o _ G' H' st (dq_2 h r)⟩
   |_=>intro o _;exact False.elim o
  |ex x=>rw [e1] at o;exact o
  |no=>rw [e1] at o;exact o
theorem HasL.rep{G:Hp}{ds:List D}(r:HasL K G vs ds):∀n:Nat,HasL K G (List.replicate n vs).flatten (List.replicate n ds).flatten
 |0=> .nil
 |n + 1=>by rw [List.replicate_succ,List.replicate_succ,List.flatten_cons,List.flatten_cons];exact r.append (HasL.rep r n)
def repD(ds:List D):D->R W
 | .int k=>if k.natAbs < 4611686018427387904/\ds.length * k.toNat<=16777216 then .ok (.ow (.lst (List.replicate k.toNat ds).flatten)) else .no
 |_=> .no
def eRep(fa:FA)(f:FE):FE:=λ δ=>(fa δ).bind λds=>if ds.length<=16777216 then(f δ).bind λw=>repD ds w.d else .no
def df_8{es:List Expr}{fz:Pos}(ha:AD X EX es fa)(hb:ED X EX b f):ED X EX (.BinOp (.List es fz) .Mult b pos) (eRep fa f):=
 PE.imp (dv_7 ea_2 (db_9 ha) hb) λ σ H Q ⟨G,δ,g0,s0,o⟩=>tDa.seq g0 s0 o λds vs G' H' _ st r o'=>by
  split at o'
  ·rename_i hz;refine⟨by rw [r.length,sizeLine_eq];exact hz,λq hq=> ?_⟩;have so:=Step.own st.gh hq (.lst vs);refine tD.seq so.gh (s0.mono st.gg) (Out.mono so o') λw v G2 H2 _ st2 r2 o2=> ?_;revert r2 o2;cases w.d with
   |int k=>
    intro r2 o2;cases r2;simp only [repD] at o2
    split at o2
    ·rename_i hk;exact⟨q,k,vs,rfl,rfl,st2.hh _ _ Cs,by have:=hk.1;omega,by have:=hk.1;omega,by rw [r.length,sizeLine_eq];exact hk.2,z_1 o2 st2.gh ((r.mono st2.gg).rep k.toNat)⟩
    ·exact o2.elim
   |_=>intro _ o2;exact False.elim o2
  ·exact o'.elim
def bn_4:List D->Option (List Int)
 | []=>some []
 | .int i::ds=>(bn_4 ds).map (i:: ·)
 |_=>none
def sumD:List D->R W
 | [.lst ds]=>match bn_4 ds with
  |some is=> .ok (.sh (.int is.sum))
  |none=> .no
 |_=> .no
theorem cr_2{G:Hp}:∀{vs:List V} {ds:List D} {us:List Value} {is:List Int},HasL K G vs ds->Vals vs us->bn_4 ds=some is->us.length=is.length/\∀(j:Nat) (v:Value),us[j]? =some v->∃t,v=.int (is.getD j 0) t
 |_,_,_,_,.nil,r,e=>by cases r;cases e;exact⟨rfl,λj v h=>by simp at h⟩
 |_,_,_,_,.cons h t,r,e=>by
  cases r with
  |cons r1 r2=>
   cases h with
   |int x=>
    obtain⟨tk,rfl⟩:=r1;simp only [bn_4] at e;obtain⟨zs,q,rfl⟩:=Option.map_eq_some_iff.mp e;obtain⟨h1,h2⟩:=cr_2 t r2 q;refine⟨by simp [h1],λj v hj=> ?_⟩;cases j with
    |zero=>simp at hj;subst hj;exact⟨tk,rfl⟩
    |succ j=>
     obtain⟨t',e'⟩:=h2 j v (by simpa using hj);exact⟨t',by rw [e'];simp⟩
   |_=>cases e
theorem ax_4(is:List Int):∀j,preSum (λi=>is.getD i 0) j=(is.take j).sum
 |0=>by simp [preSum]
 |j + 1=>by rw [preSum,ax_4 is j,PySem.sum_take_succ]
def cx_0(hc:X.calm=true):z_3 X (.builtin "sum") sumD:=by
 intro zd s σ H vs us Q I rv q;obtain⟨EX,G,ds,g,r,o⟩:=q;cases r with
 |nil=>exact False.elim o
 |cons h t=>
  cases t with
  |cons _ _=>cases h <;> exact False.elim o
  |nil=>
   cases h with
   |lst h r=>
    rename_i l _ _;simp only [sumD] at o
    split at o
    ·rename_i is e;obtain⟨u,rfl,ru⟩:=rv.one;cases ru;obtain⟨its,rv',pl,hz⟩:=I.list (g.seq h);obtain⟨el,ev⟩:=cr_2 r rv' e;have nl:l≠s.heap.objs.size:=λz=>by
      obtain⟨o',ho,_⟩:=pl.isList;exact absurd (Heap.lt_size ho) (by rw [<-z];exact Nat.lt_irrefl _)
     have ll:l < s.heap.objs.size:=by
      obtain⟨o',ho,_⟩:=pl.isList;exact Heap.lt_size ho
     refine call_sum_walkAnyS (wpAny_pyIter_list pl.isList ⟨s.heap.objs.size,_,_,_,_,_,_,λi=>is.getD i 0,rfl,(Walks.list (A:=X.A.in1) (I.ok.hd hc) s.heap.objs.size l nl its.toArray).toS,⟨⟨_,Heap.get?_push_size _ rfl,rfl,rfl⟩, ?_⟩,λb hb=> ?_,λi v hP=>ev i v (by simpa using hP),λs' t' mv=> ?_⟩)
     ·exact pl.isList.at λo z=>Heap.get?_push_of_some _ z
     ·rw [Heap.size_push];have hb':b=s.heap.objs.size\/b=l:=by simpa using hb
      rcases hb' with rfl|rfl
      ·exact Nat.lt_succ_self _
      ·exact Nat.lt_succ_of_lt ll
     ·have en:its.toArray.size=is.length:=by simp [el]
      rw [en,ax_4,List.take_length];obtain⟨m1,m2,m3,m4,m5⟩:=mv;have e':s'={s with heap:=s'.heap,toks:=s'.toks}:=by
       cases s';simp only at m2 m3 m4;subst m2 m3 m4;rfl
      rw [e'];refine⟨.int _,H,I.kept (t':=s'.toks) λb o' z=>m1 b o' (by
       have hb:b≠s.heap.objs.size:=Nat.ne_of_lt (Heap.lt_size z);simpa using hb) (Heap.get?_push_of_some _ z),⟨t',rfl⟩,Dc o g (.int _)⟩
    ·exact o.elim
   |_=>exact False.elim o
def cx_1{G:Hp}(lo:Int):∀n:Nat,HasL K G ((List.range n).map λ(k:Nat)=>V.int (lo + (k:Int))) (Ci lo n):=by
 intro n;unfold Ci;generalize List.range n=l
 induction l with
 |nil=>exact .nil
 |cons a l ih=>exact .cons (.int _) ih
def ei_7{n:Nat}{lo:Int}{zp:Array Value}(h:PySem.ItemsOf (λi v=>∃t,v=.int (lo + i * 1) t) zp n):Vals ((List.range n).map λ(k:Nat)=>V.int (lo + (k:Int))) zp.toList:=by
 obtain⟨h1,h2⟩:=h;have all:∀(l:List Value) (k:Nat),(∀(j:Nat) v,l[j]? =some v->∃t,v=.int (lo + ((k + j:Nat):Int)) t)->Vals ((List.range' k l.length).map λ(k:Nat)=>V.int (lo + (k:Int))) l:=by
  intro l
  induction l with
  |nil=>intro k _;exact .nil
  |cons a l ih=>
   intro k h;rw [List.length_cons,List.range'_succ,List.map_cons];refine .cons ?_ (ih (k + 1) λj v hj=> ?_)
   ·obtain⟨t,e⟩:=h 0 a rfl;exact⟨t,by rw [e];rfl⟩
   ·obtain⟨t,e⟩:=h (j + 1) v (by simpa using hj);exact⟨t,by rw [e,show k + (j + 1)=k + 1 + j by omega]⟩
 have:=all zp.toList 0 λj v hj=>by
  obtain⟨t,e⟩:=h2 j v (by simpa using hj);exact⟨t,by rw [e];simp⟩
 rw [show zp.toList.length=n by simpa using h1] at this;rw [List.range_eq_range'];exact this
def cb_9{zd:List (Addr×Obj)}{s:Shared}{σ:Sg}{Q:VK}{lo hi:Int}{t u v:Tok}{tk:Nat}(hc:X.calm=true)(I:Inv X zd σ H s)(h1: -(2 ^ 62)<=lo)(h2:lo < 2 ^ 62)(h3: -(2 ^ 62)<=hi)(h4:hi < 2 ^ 62)(hz:(hi - lo).toNat<=16777216)
  (q:∀p,H p=none->Q (.ref p) (upd H p (.lst ((List.range (hi - lo).toNat).map λ(k:Nat)=>V.int (lo + (k:Int)))))):
  wpAny (model X.prog X.w) X.A (call (.type "list") [.ref s.heap.objs.size]) (EP X zd σ Q) X.xe {s with heap:=s.heap.push {cls:=.type "range",data:=.fields #[.int lo t,.int hi u,.int 1 v]},toks:=tk}:=by
 have I1:Inv X zd σ H {s with heap:=s.heap.push {cls:=.type "range",data:=.fields #[.int lo t,.int hi u,.int 1 v]},toks:=tk}:=I.kept λb o e=>Heap.get?_push_of_some _ e;have en:Builtin.Range.rangeSize lo hi 1=(((hi - lo).toNat:Nat):Int):=by rw [rangeSize_one];split <;> omega
 refine PySem.call_list_range (I1.ok.hd hc) (IsRange.new ..) (small_one h1 h2 h3 h4) en hz λh' tk' zp c kk hat it=> ?_;have rv:=ei_7 it;have fr:=I1.hok.fresh (Nat.le_refl _);refine⟨.ref _,upd H _ (.lst _),I1.laid (t':=tk') kk (Nat.le_refl _) ⟨?_,zp.toList,c,rv,by simpa using hat⟩,rfl,q _ fr⟩;rw [rv.length,sizeLine_eq];have:=it.1;simp;omega
def eRng(k:List D->R (List D))(fa:FA):FE:=λ δ=>(fa δ).bind λas=>(k as).bind λds=>if ds.length<=16777216 then .ok (.ow (.lst ds)) else .no
def bj_5{p' pos':Pos}(hc:X.calm=true)(hml:X.mg "list" =none)(hm:X.mg "range" =none)(ha:AD X EX [a] fa)(hgl:Gl X "list" :=by rfl)(hg:Gl X "range" :=by rfl)
  (hs:starEach [a] X.env= [(false,eval a X.env)]:=by rfl)
  (hs2:starEach [.Call (.Name "range" p') [a] [] pos'] X.env=(false,eval (.Call (.Name "range" p') [a] [] pos') X.env)::starEach [] X.env:=by rfl):
  ED X EX (.Call (.Name "list" p) [.Call (.Name "range" p') [a] [] pos'] [] pos) (eRng Ch fa):=by
 intro zd s σ H Q I q;obtain⟨G,δ,g0,s0,o⟩:=q;refine Call_ (ah_3 I hgl hml PyProof.Rows.boot_list (PyProof.Rows.callWith_type1 ?_ hs2 rfl));rw [hs2];show wpAny _ _ (spliced ((false,eval (.Call (.Name "range" p') [a] [] pos') X.env)::backTo pos (starEach [] X.env))) _ _ s;refine Calls.spliced_cons ?_;refine Call_ (ah_3 I hg hm boot_range (PyProof.Rows.callWith_type1 (Bi (ha pos' zd s σ H _ I (tDa.seq g0 s0 o (P:=λvs H1=>∃j G1,Same G1 H1/\vs= [.int j]/\j.natAbs < 4611686018427387904/\j.toNat<=16777216/\Out X.K (EX σ) G1 H1 (.ok (.ow (.lst (Ci 0 j.toNat)))) Q) λds vs G' H' _ st r o'=> ?_)) λus s1 ⟨vs,H1,I1,r1,q1⟩=> ?_) hs rfl))
 ·cases r with
  |nil=>exact False.elim o'
  |cons h t=>
   cases t with
   |cons _ _=>cases h <;> exact False.elim o'
   |nil=>
    cases h with
    |int j=>
     simp only [Ch] at o'
     split at o'
     ·rename_i hj;simp only [R.bind_ok,k_8] at o'
      split at o'
      ·rename_i hl;exact⟨j,G',st.gh,rfl,hj,hl,o'⟩
      ·exact o'.elim
     ·exact o'.elim
    |_=>exact False.elim o'
 ·obtain⟨j,G1,sg,rfl,hj,hl,o'⟩:=q1;obtain⟨u,rfl,t,rfl⟩:=r1.one;refine call_range_1 ?_;refine Calls.spliced_nil ?_;have hl':(j - 0).toNat<=16777216:=by simpa using hl
  refine cb_9 hc I1 (by omega) (by omega) (by omega) (by omega) hl' ?_;rw [Int.sub_zero];exact z_1 o' sg (cx_1 0 _)
def cr_3(i:Nat)(js:List Nat)(fi fe:FE):FS:=λ Δ=>match(gsome js Δ)[i]? with
 |some (.ow (.lst ds))=>(match fe (Bb (gsome js Δ)) with
  | .ok w=>(match fi (As (gsome js Δ)) with
   | .ok z=>(match z.d with
    | .int k=>(match ixN ds.length k with
     |some j=> .nx ((gsome js Δ).set i (.ow (.lst (ds.set j w.d))))
     |none=> .no)
    |_=> .no)
   |_=> .no)
  |_=> .no)
 |_=> .no
def dq_5{i:Nat}(js:List Nat){x:Str}{e ie:Expr}{fe fi:FE}{p1 zj pos:Pos}(he:ED X EX e fe)(hi:ED X EX ie fi)(hN:X.N[i]? =some x:=by rfl)(hv:Vis X.env.scope x:=by first|exact Or.inl rfl|exact Or.inr (Or.inl rfl)|exact Or.inr (Or.inr rfl))(hd:(x ==("__debug__" :Str))=false:=by decide)
  (hcd:(x ==("__classdict__" :Str))=false:=by decide)
  (ha:∀v,assign (.Subscript (.Name x p1) ie zj) X.env v=(do
   let ov<-holding [v] (eval (.Name x p1) X.env)
   let iv<-holding [v,ov] (eval ie X.env)
   standAt zj
   holding [v,ov,iv] (setItem ov iv v)
   release [v,ov,iv] []):=by intro _;rfl)
  (hs:swapsWithSole [.Subscript (.Name x p1) ie zj] e pos.line X.env=pure false:=by rfl) (hw:swappedStores [.Subscript (.Name x p1) ie zj] e X.env=pure none:=by rfl)
  (h1:(assignEach [.Subscript (.Name x p1) ie zj] X.env).map (·.2)= [assign (.Subscript (.Name x p1) ie zj) X.env]:=by rfl):
  SD X EX (.Assign [.Subscript (.Name x p1) ie zj] e pos) (cr_3 i js fi fe):=
 PS.imp (dy_6 he (dy_5 (Fe hN hv hd hcd) hi dc_1 ha) hs hw h1) λD σ H ⟨H0,G0,G,Δ,O,E,q⟩=>by
  obtain⟨G1,O1,sg,E1⟩:=E.gsome js;unfold cr_3 at q;generalize gsome js Δ=Δ1 at q E1
  split at q
  ·rename_i ds e1;obtain⟨v0,s1,t⟩:=E1.ow i _ _ e1 rfl;obtain⟨a,vs,rfl,m,hH,rl⟩:=t.list_of
   ·skip
    refine⟨G1,Bb Δ1,E1.st.gh,E1.gsh, ?_⟩;cases e2:fe (Bb Δ1) with
    |ex x=>rw [e2] at q;exact q.elim
    |no=>rw [e2] at q;exact q.elim
    |ok w=>
     simp only [e2] at q;refine WP.intro λv G' H' st r=> ?_;have E2:=E1.grow st;refine⟨.ref a,s1,Fy G' H' O1,As Δ1,E2.aH,E2.gall, ?_⟩;cases e3:fi (As Δ1) with
     |ex x=>simp only [e3] at q;exact q.elim
     |no=>simp only [e3] at q;exact q.elim
     |ok z=>
      simp only [e3] at q;refine WP.intro λv2 G2 H2 st2 r2=> ?_;revert q r2;cases z.d with
      |int k=>
       intro q r2;cases r2;cases e4:ixN ds.length k with
       |none=>simp only [e4] at q;exact q.elim
       |some j=>
        simp only [e4] at q;have hH2:H2 a=some (.lst vs):=st2.hh _ _ (st.hh _ _ hH);refine⟨a,vs,k,j,rfl,rfl,hH2,by rw [rl.length];exact e4, ?_⟩;exact q σ G' _ _ ((E2.keep st2.hh).writeL s1 m (HasL.set r j (rl.mono st.gg))) (sg.trans st.gg)
      |_=>intro q _;exact False.elim q
  ·exact q.elim
end
section
variable{K:Frag}{x qual:Str}{st:Stmt}{f:Addr}{fd:FuncData}{ps:List Str}
def Fun.binds1(F:Fun K x qual st f fd)(hl:ps.length=1:=by rfl)(h:∀(kV doc pm:Value) (an:Option Addr) (zq ct a:Value),bindArgs (fnOf x qual (k_1 st) (Fc st) (Ck st) .none kV doc pm an zq ct) ⟨[a],[]⟩=pure (ps.zip [a]):=by intros;rfl):Binds K fd ps []:=
 F.binds λkV doc pm an zq ct us hu=>match us,hu.trans hl with| [a],_=>h kV doc pm an zq ct a
def Fun.binds2(F:Fun K x qual st f fd)(hl:ps.length=2:=by rfl)(h:∀(kV doc pm:Value) (an:Option Addr) (zq ct a b:Value),bindArgs (fnOf x qual (k_1 st) (Fc st) (Ck st) .none kV doc pm an zq ct) ⟨[a,b],[]⟩=pure (ps.zip [a,b]):=by intros;rfl):Binds K fd ps []:=
 F.binds λkV doc pm an zq ct us hu=>match us,hu.trans hl with| [a,b],_=>h kV doc pm an zq ct a b
def Fun.binds3(F:Fun K x qual st f fd)(hl:ps.length=3:=by rfl)(h:∀(kV doc pm:Value) (an:Option Addr) (zq ct a b c:Value),bindArgs (fnOf x qual (k_1 st) (Fc st) (Ck st) .none kV doc pm an zq ct) ⟨[a,b,c],[]⟩=pure (ps.zip [a,b,c]):=by intros;rfl):Binds K fd ps []:=
 F.binds λkV doc pm an zq ct us hu=>match us,hu.trans hl with| [a,b,c],_=>h kV doc pm an zq ct a b c
def Fun.binds4(F:Fun K x qual st f fd)(hl:ps.length=4:=by rfl)(h:∀(kV doc pm:Value) (an:Option Addr) (zq ct a b c d:Value),bindArgs (fnOf x qual (k_1 st) (Fc st) (Ck st) .none kV doc pm an zq ct) ⟨[a,b,c,d],[]⟩=pure (ps.zip [a,b,c,d]):=by intros;rfl):Binds K fd ps []:=
 F.binds λkV doc pm an zq ct us hu=>match us,hu.trans hl with| [a,b,c,d],_=>h kV doc pm an zq ct a b c d
def Fun.binds5(F:Fun K x qual st f fd)(hl:ps.length=5:=by rfl)(h:∀(kV doc pm:Value) (an:Option Addr) (zq ct a b c d e:Value),bindArgs (fnOf x qual (k_1 st) (Fc st) (Ck st) .none kV doc pm an zq ct) ⟨[a,b,c,d,e],[]⟩=pure (ps.zip [a,b,c,d,e]):=by intros;rfl):Binds K fd ps []:=
 F.binds λkV doc pm an zq ct us hu=>match us,hu.trans hl with| [a,b,c,d,e],_=>h kV doc pm an zq ct a b c d e
def Fun.binds6(F:Fun K x qual st f fd)(hl:ps.length=6:=by rfl)(h:∀(kV doc pm:Value) (an:Option Addr) (zq ct a b c d e g:Value),bindArgs (fnOf x qual (k_1 st) (Fc st) (Ck st) .none kV doc pm an zq ct) ⟨[a,b,c,d,e,g],[]⟩=pure (ps.zip [a,b,c,d,e,g]):=by intros;rfl):Binds K fd ps []:=
 F.binds λkV doc pm an zq ct us hu=>match us,hu.trans hl with| [a,b,c,d,e,g],_=>h kV doc pm an zq ct a b c d e g
def Fun.binds7(F:Fun K x qual st f fd)(hl:ps.length=7:=by rfl)(h:∀(kV doc pm:Value) (an:Option Addr) (zq ct a b c d e g k:Value),bindArgs (fnOf x qual (k_1 st) (Fc st) (Ck st) .none kV doc pm an zq ct) ⟨[a,b,c,d,e,g,k],[]⟩=pure (ps.zip [a,b,c,d,e,g,k]):=by intros;rfl):Binds K fd ps []:=
 F.binds λkV doc pm an zq ct us hu=>match us,hu.trans hl with| [a,b,c,d,e,g,k],_=>h kV doc pm an zq ct a b c d e g k
end
structure ZApart(z TI TO i1 i2:Addr):Prop where
 TIz:TI≠z
 TOz:TO≠z
 i1z:i1≠z
 i2z:i2≠z
 TITO:TI≠TO
 TIi1:TI≠i1
 TIi2:TI≠i2
 TOi1:TO≠i1
 TOi2:TO≠i2
 i12:i1≠i2
section
variable{X:Cx}{EX:Bo}{a b:Expr}{fa:FA}{elts:List Expr}{x1:Nat}{tp p pos:Pos}
end
def met(is:List Int):List Int:=PyProof.Rows.firstMet (λi=>is.getD i 0) is.length
section
variable{X:Cx}{EX:Bo}{a:Expr}{f:FE}{p p' pos pos':Pos}
end
def Di:D->Option At
 | .int i=>some (.inl i)
 | .str x=>some (.inr x)
 |_=>none
def ad_9{G:Hp}{d:D}{k:At}(r:Has K G v d)(e:Di d=some k):v=kV k:=by
 cases r <;> first|(cases e;rfl)|cases e
section
variable{α:Type}
def Dt(kvs:List (At×α))(k:At):Option α:=(kvs.find? λkv=>decide (kv.1=k)).map (·.2)
def Ds(kvs:List (At×α))(k:At)(v:α):List (At×α):=if(kvs.any λkv=>decide (kv.1=k))=true then kvs.map (λkv=>if kv.1=k then(kv.1,v) else kv) else kvs ++ [(k,v)]
def Fs(kvs:List (At×α))(k:At):List (At×α):=kvs.filter λkv=>decide (kv.1≠k)
def Dz(kvs:List (At×α))(k:At):Bool:=(Dt kvs k).isSome
end
def cr_4(kvs:List (At×V))(k:At)(v:V):Dk kvs k v=Ds kvs k v:=rfl
theorem bb_1{G:Hp}:∀{kvs:List (At×V)} {kds:List (At×D)} (k:At),kvs.map (·.1)=kds.map (·.1)->HasL K G (kvs.map (·.2)) (kds.map (·.2))->(Fd kvs k).isSome=Dz kds k/\∀d,Dt kds k=some d->∃v,Fd kvs k=some v/\Has K G v d
 | [],[],k,_,_=>⟨rfl,λd e=>by cases e⟩
 | [],_::_,k,e,_=>by simp at e
 |_::_,[],k,e,_=>by simp at e
 |(x,v)::kvs,(y,d)::kds,k,e,r=>by
  simp only [List.map_cons,List.cons.injEq] at e;obtain⟨e1,e2⟩:=e;subst e1;cases r with
  |cons h r=>
   obtain⟨i1,i2⟩:=bb_1 (kvs:=kvs) (kds:=kds) k e2 r
   by_cases q:x=k
   ·have a1:Fd ((x,v)::kvs) k=some v:=ah_5 q;have a2:Dt ((x,d)::kds) k=some d:=by unfold Dt;rw [List.find?_cons_of_pos (by simpa using q)];rfl
    refine⟨by unfold Dz;rw [a1,a2];rfl,λd' e'=> ?_⟩;rw [a2] at e';cases e';exact⟨v,a1,h⟩
   ·have a1:Fd ((x,v)::kvs) k=Fd kvs k:=ah_6 q;have a2:Dt ((x,d)::kds) k=Dt kds k:=by unfold Dt;rw [List.find?_cons_of_neg (by simpa using q)]
    refine⟨by unfold Dz at i1⊢;rw [a1,a2];exact i1,λd' e'=> ?_⟩;rw [a2] at e';rw [a1];exact i2 d' e'
theorem be_5{α β:Type}:∀{kvs:List (At×α)} {kds:List (At×β)} (k:At),kvs.map (·.1)=kds.map (·.1)->(kvs.any λkv=>decide (kv.1=k))=kds.any λkv=>decide (kv.1=k)
 | [],[],_,_=>rfl
 | [],_::_,k,e=>by simp at e
 |_::_,[],k,e=>by simp at e
 |(x,v)::kvs,(y,d)::kds,k,e=>by
  simp only [List.map_cons,List.cons.injEq] at e;obtain⟨e1,e2⟩:=e;subst e1;rw [List.any_cons,List.any_cons,be_5 k e2]
def cr_5{G:Hp}{kvs:List (At×V)}{kds:List (At×D)}(k:At){d:D}(e:kvs.map (·.1)=kds.map (·.1))(r:HasL K G (kvs.map (·.2)) (kds.map (·.2)))(h:Has K G v d):
  (Dk kvs k v).map (·.1)=(Ds kds k d).map (·.1)/\HasL K G ((Dk kvs k v).map (·.2)) ((Ds kds k d).map (·.2)):=by
 rw [cr_4];unfold Ds;rw [be_5 k e]
 split
 ·have all:∀{kvs:List (At×V)} {kds:List (At×D)},kvs.map (·.1)=kds.map (·.1)->HasL K G (kvs.map (·.2)) (kds.map (·.2))->
    (kvs.map (λkv=>if kv.1=k then(kv.1,v) else kv)).map (·.1)=(kds.map (λkv=>if kv.1=k then(kv.1,d) else kv)).map (·.1)/\HasL K G ((kvs.map (λkv=>if kv.1=k then(kv.1,v) else kv)).map (·.2)) ((kds.map (λkv=>if kv.1=k then(kv.1,d) else kv)).map (·.2)):=by
   intro kvs
   induction kvs with
   |nil=>
    intro kds e r;cases kds with
    |nil=>exact⟨rfl,.nil⟩
    |cons _ _=>simp at e
   |cons p kvs ih=>
    intro kds e r;cases kds with
    |nil=>simp at e
    |cons q kds=>
     obtain⟨x,u⟩:=p;obtain⟨y,w⟩:=q;simp only [List.map_cons,List.cons.injEq] at e;obtain⟨e1,e2⟩:=e;subst e1;cases r with
     |cons h1 r=>
      obtain⟨i1,i2⟩:=ih e2 r;simp only [List.map_cons]
      by_cases z:x=k
      ·simp only [z,if_true];exact⟨by rw [i1],.cons h i2⟩
      ·simp only [z,if_false];exact⟨by rw [i1],.cons h1 i2⟩
  exact all e r
 ·refine⟨by rw [List.map_append,List.map_append,e];rfl, ?_⟩;rw [List.map_append,List.map_append];exact r.append (.cons h .nil)
section
variable{X:Cx}{EX:Bo}{pos:Pos}
def ar_1:FE:=λ_=> .ok (.ow (.dic []))
def bb_2:ED X EX (.Dict [] [] pos) ar_1:=PE.imp ca_0 λ σ H Q ⟨G,δ,g,s,o⟩=>λp hp=>
 o (.ref p) (λb=>b=p) G _ (Step.own g hp _) (λa e=>by subst e;exact⟨hp,g.free hp,by rw [Cs];simp⟩) (.dict Cs rfl rfl .nil)
def inK(neg:Bool):D->D->R W
 |d,.dic kvs=>match Di d with
  |some k=> .ok (.sh (.bl (if neg then !Dz kvs k else Dz kvs k)))
  |none=> .no
 |_,_=> .no
def DGet.rd{a:Addr}{kvs:List (At×V)}{k:At}(e:Rd H a (.dK kvs)):DGet H a (kV k) (Fd kvs k):=.inl ⟨kvs,k,e,rfl,rfl⟩
def ec_0(hu:X.A.units + 64 < cLine):Fa X (compareOp .In) (inK false):=by
 intro zd s σ H x y v u Q I rx ry q;obtain⟨EX,G,a,b,g,ra,rb,o⟩:=q;cases rb with
 |dic h hk r=>
  simp only [inK] at o
  split at o
  ·rename_i k ek;have ex:=ad_9 ra ek;subst ex;cases ry;refine d_in (by omega) I (DGet.rd (k:=k) (Same.rdD g h)) rx λs' I'=>⟨.bl _,H,I',rfl, ?_⟩;rw [(bb_1 k hk r).1];exact Dc o g (.bl _)
  ·exact o.elim
 |_=>exact False.elim o
def bn_5(hu:X.A.units + 64 < cLine):Fa X (compareOp .NotIn) (inK true):=by
 intro zd s σ H x y v u Q I rx ry q;obtain⟨EX,G,a,b,g,ra,rb,o⟩:=q;cases rb with
 |dic h hk r=>
  simp only [inK] at o
  split at o
  ·rename_i k ek;have ex:=ad_9 ra ek;subst ex;cases ry;refine do_5 (by omega) I (DGet.rd (k:=k) (Same.rdD g h)) rx λs' I'=>⟨.bl _,H,I',rfl, ?_⟩;rw [(bb_1 k hk r).1];exact Dc o g (.bl _)
  ·exact o.elim
 |_=>exact False.elim o
def Ed:D->D->R W
 | .dic kvs,d=>match Di d with
  |some k=>(match Dt kvs k with
   |some x=> .ok (.sh x)
   |none=> .no)
  |none=> .no
 |_,_=> .no
def bt_0{o i:Expr}{f g:FE}(hu:X.A.units + 64 < cLine)(ho:ED X EX o f)(hi:ED X EX i g)(hs:NoSl i:=by intro _ _;rfl):ED X EX (.Subscript o i pos) (Ak Ed f g):=
 PE.imp (bs_1 (by omega) ho hi hs) λ σ H Q ⟨G,δ,g0,s0,o⟩=>tD.seq g0 s0 o λw v G1 H1 _ st1 r1 o1=>tD.seq st1.gh (s0.mono st1.gg) o1 λw2 v2 G2 H2 _ st2 r2 o2=>by
  have r1:=r1.mono st2.gg;revert r1 o2;cases w.d with
  |dic kvs=>
   intro o2 r1;simp only [Ed] at o2
   split at o2
   ·rename_i k ek
    split at o2
    ·rename_i x ex;cases r1 with
     |dic h hk r=>
      obtain⟨u,e1,e2⟩:=(bb_1 k hk r).2 x ex;have e3:=ad_9 r2 ek;subst e3;refine⟨_,u,rfl, ?_,Dc o2 st2.gh e2⟩;rw [<-e1];exact DGet.rd (Same.rdD st2.gh h)
    ·exact o2.elim
   ·exact o2.elim
  |_=>intro o2 _;exact False.elim o2
def lenK:List D->R W
 | [.dic kvs]=> .ok (.sh (.int kvs.length))
 |_=> .no
def cx_2:z_3 X (.builtin "len") lenK:=by
 intro zd s σ H vs us Q I rv q;obtain⟨EX,G,ds,g,r,o⟩:=q;cases r with
 |nil=>exact False.elim o
 |cons h t=>
  cases t with
  |cons _ _=>cases h <;> exact False.elim o
  |nil=>
   cases h with
   |dic h hk r=>
    rename_i kvs kds;obtain⟨u,rfl,ru⟩:=rv.one;cases ru;refine ei_0 I (Same.rdD g h) λt s' I'=>⟨.int _,H,I',⟨t,rfl⟩, ?_⟩;have hl:kds.length=kvs.length:=by
     have:=congrArg List.length hk;rw [List.length_map,List.length_map] at this;exact this.symm
    rw [<-hl];exact Dc o g (.int _)
   |_=>exact False.elim o
def ar_2(i:Nat)(js:List Nat)(fk fe:FE):FS:=λ Δ=>match(gsome js Δ)[i]? with
 |some (.ow (.dic kvs))=>(match fe (Bb (gsome js Δ)) with
  | .ok w=>(match fk (As (gsome js Δ)) with
   | .ok z=>(match Di z.d with
    |some k=>if kvs.length < 16777216 then .nx ((gsome js Δ).set i (.ow (.dic (Ds kvs k w.d)))) else .no
    |none=> .no)
   |_=> .no)
  |_=> .no)
 |_=> .no
def bt_1{i:Nat}(js:List Nat){x:Str}{e ie:Expr}{fe fk:FE}{p1 zj pos:Pos}(hu:X.A.units + 64 < cLine)(he:ED X EX e fe)(hi:ED X EX ie fk)(hN:X.N[i]? =some x:=by rfl)(hv:Vis X.env.scope x:=by first|exact Or.inl rfl|exact Or.inr (Or.inl rfl)|exact Or.inr (Or.inr rfl))(hd:(x ==("__debug__" :Str))=false:=by decide)
  (hcd:(x ==("__classdict__" :Str))=false:=by decide) (hs:swapsWith e (some (.Subscript (.Name x p1) ie zj)) pos.line X.env=pure false:=by rfl):
  SD X EX (.Assign [.Subscript (.Name x p1) ie zj] e pos) (ar_2 i js fk fe):=
 PS.imp (bs_2 (by omega) (Fe hN hv hd hcd) hi he hs) λD σ H ⟨H0,G0,G,Δ,O,E,q⟩=>by
  obtain⟨G1,O1,sg,E1⟩:=E.gsome js;unfold ar_2 at q;generalize gsome js Δ=Δ1 at q E1
  split at q
  ·rename_i kds e1;obtain⟨v0,s1,t⟩:=E1.ow i _ _ e1 rfl;obtain⟨a,kvs,rfl,m,hH,hk,rl⟩:=t.dict_of;refine⟨G1,Bb Δ1,E1.st.gh,E1.gsh, ?_⟩;cases e2:fe (Bb Δ1) with
   |ex x=>rw [e2] at q;exact q.elim
   |no=>rw [e2] at q;exact q.elim
   |ok w=>
    simp only [e2] at q;refine WP.intro λv G' H' st r=> ?_;have E2:=E1.grow st;refine⟨.ref a,s1,Fy G' H' O1,As Δ1,E2.aH,E2.gall, ?_⟩;cases e3:fk (As Δ1) with
    |ex x=>simp only [e3] at q;exact q.elim
    |no=>simp only [e3] at q;exact q.elim
    |ok z=>
     simp only [e3] at q;refine WP.intro λv2 G2 H2 st2 r2=> ?_
     split at q
     ·rename_i k ek
      split at q
      ·rename_i hl;have e4:=ad_9 r2 ek;subst e4;have hH2:H2 a=some (.dK kvs):=st2.hh _ _ (st.hh _ _ hH);have hle:kvs.length=kds.length:=by
        have:=congrArg List.length hk
        rwa [List.length_map,List.length_map] at this
       obtain⟨p1,p2⟩:=cr_5 k hk (rl.mono st.gg) r;exact⟨a,_,rfl,DPut.k hH2 (by rw [hle,sizeLine_eq];exact hl),q σ G' _ _ ((E2.keep st2.hh).writeD s1 m p1 p2) (sg.trans st.gg)⟩
      ·exact q.elim
     ·exact q.elim
  ·exact q.elim
end
section
variable{K:Frag}{H0 H1:HB}{G0 G H:Hp}{σ:Sg}{Δ:SE}{O:OS}
end
section
variable{X:Cx}{EX:Bo}{pos:Pos}
end
section
variable{X:Cx}{EX:Bo}{pos:Pos}
end
def ec_1(t:Tn):Sl.any (.tr t)=some t.d:=rfl
section
variable{X:Cx}{EX:Bo}{a b:Expr}{fa:FA}{p pos:Pos}
end
section
variable{K:Frag}{G H:Hp}
theorem OwL.append:∀{vs us:List V} {ts rs:List Tn} {S1 S2 S:AS},OwL K G H vs ts S1->OwL K G H us rs S2->(∀b,S1 b->S2 b->False)->(∀b,S1 b->S b)->(∀b,S2 b->S b)->OwL K G H (vs ++ us) (ts ++ rs) S
 |_,_,_,_,_,_,_,.nil,r,_,_,i2=>r.mono (Same.refl _) (λ_ _ _ q=>q) i2
 |_,_,_,_,S1,S2,S,.cons (S1:=Sa) (S2:=Sb) h r dj s1 s2,q,d,i1,i2=>
  .cons (S2:=λb=>Sb b\/S2 b) h (OwL.append r q (λb z1 z2=>d b (s2 b z1) z2) (λb z=> .inl z) λb z=> .inr z) (λb z1 z2=>by
   rcases z2 with z2|z2
   ·exact dj b z1 z2
   ·exact d b (s1 b z1) z2) (λb z=>i1 b (s1 b z)) λb z=>by
   rcases z with z|z
   ·exact i1 b (s2 b z)
   ·exact i2 b z
end
section
variable{α:Type}
def Em:List (At×α)->At->α->List (At×α)
 | [],_,_=> []
 |(x,v)::r,k,v'=>if x=k then(x,v')::r else(x,v)::Em r k v'
theorem av_0:∀(l:List (At×α)) (k:At) (v:α),(Em l k v).map (·.1)=l.map (·.1)
 | [],_,_=>rfl
 |(x,v0)::r,k,v=>by
  unfold Em
  split
  ·rfl
  ·rw [List.map_cons,List.map_cons,av_0 r k v]
end
def unS:List (At×Tn)->Option (List (At×D))
 | []=>some []
 |(k,.sh d)::r=>(unS r).map ((k,d):: ·)
 |_=>none
theorem be_6:∀{zn:List (At×Tn)} {kds:List (At×D)},unS zn=some kds->zn=kds.map λp=>(p.1,Tn.sh p.2)
 | [],_,e=>by cases e;rfl
 |(k,t)::r,kds,e=>by
  cases t with
  |sh d=>
   simp only [unS] at e;cases q:unS r with
   |none=>rw [q] at e;cases e
   |some l=>
    rw [q] at e;cases e;rw [be_6 q];rfl
  |_=>cases e
theorem cl_6:∀kds:List (At×D),unS (kds.map λp=>(p.1,Tn.sh p.2))=some kds
 | []=>rfl
 |(k,d)::r=>by
  show(unS (r.map λp=>(p.1,Tn.sh p.2))).map ((k,d):: ·)=_;rw [cl_6 r];rfl
section
variable{K:Frag}{G H:Hp}
theorem OwL.focusK(k:At):∀{kvs:List (At×V)} {zn:List (At×Tn)} {S:AS} {t:Tn},kvs.map (·.1)=zn.map (·.1)->OwL K G H (kvs.map (·.2)) (zn.map (·.2)) S->Dt zn k=some t->
  ∃v S1,Fd kvs k=some v/\Ow K G H v t S1/\(∀b,S1 b->S b)/\
   ∀{H':Hp} {t':Tn},(∀b o,S b->¬S1 b->H b=some o->H' b=some o)->Ow K G H' v t' S1->OwL K G H' (kvs.map (·.2)) ((Em zn k t').map (·.2)) S
 | [],[],_,_,_,_,e=>by cases e
 | [],_::_,_,_,e,_,_=>by simp at e
 |_::_,[],_,_,e,_,_=>by simp at e
 |(x,v)::kvs,(y,t0)::zn,S,t,e,r,h=>by
  simp only [List.map_cons,List.cons.injEq] at e;obtain⟨e1,e2⟩:=e;subst e1;cases r with
  |cons hh r dj s1 s2=>
   rename_i S1 S2
   by_cases q:x=k
   ·have a2:Dt ((x,t0)::zn) k=some t0:=by unfold Dt;rw [List.find?_cons_of_pos (by simpa using q)];rfl
    rw [a2] at h;cases h;refine⟨v,S1,ah_5 q,hh,s1,λ{H' t'} f h'=> ?_⟩;unfold Em;rw [if_pos q];exact .cons h' (r.mono (Same.refl _) (λb o hb z=>f b o (s2 b hb) (λw=>dj b w hb) z) λ_ z=>z) dj s1 s2
   ·have a2:Dt ((x,t0)::zn) k=Dt zn k:=by unfold Dt;rw [List.find?_cons_of_neg (by simpa using q)]
    rw [a2] at h;obtain⟨v',S',e1,h',i',f'⟩:=OwL.focusK k e2 r h;refine⟨v',S',by rw [ah_6 q];exact e1,h',λb z=>s2 b (i' b z),λ{H' t'} f h2=> ?_⟩;unfold Em;rw [if_neg q];exact .cons (hh.mono (Same.refl _) (λb o hb z=>f b o (s1 b hb) (λw=>dj b hb (i' b w)) z) λ_ z=>z) (f' (λb o hb nb z=>f b o (s2 b hb) nb z) h2) dj s1 s2
end
def Sl.tree:Sl->Option (Tn×Bool)
 | .ow d=>some (Tn.of d,false)
 | .tr t=>some (t,false)
 | .lt t=>some (t,true)
 |_=>none
def Sl.mk(b:Bool)(t:Tn):Sl:=if b then .lt t else .tr t
def Sl.tree_own{s:Sl}{t:Tn}{b:Bool}(e:s.tree=some (t,b)):s.own=some t:=by
 cases s <;> first|(cases e;rfl)|cases e
def Sl.mk_own(b:Bool)(t:Tn):(Sl.mk b t).own=some t:=by cases b <;> rfl
def Sl.mk_lk(b:Bool)(t:Tn):∀d,Sl.mk b t≠ .lk d:=by intro d;cases b <;> (intro z;cases z)
def Ev.mk_lt{H0:HB}{G0 G H:Hp}{σ:Sg}{Δ:SE}{O:OS}(E:Ev K H0 G0 G H σ Δ O){i:Nat}{s:Sl}{t:Tn}{b:Bool}(e:Δ[i]? =some s)(q:s.tree=some (t,b))(t':Tn):∀d,Sl.mk b t'=.lt d->σ[i]? =some (some (.ref (H0.b i))):=by
 intro d z;cases b with
 |false=>cases z
 |true=>
  cases s with
  |lt t0=>exact E.lt i t0 e
  |_=>cases q
def Ev.writeIn{H0:HB}{G0 G H:Hp}{σ:Sg}{Δ:SE}{O:OS}(E:Ev K H0 G0 G H σ Δ O){i:Nat}{s:Sl}{t t':Tn}{b:Bool}{a:Addr}{o:HO}(e:Δ[i]? =some s)(q:s.tree=some (t,b))(s1:σ[i]? =some (some v))(m:O i a)(t1:Ow K G (upd H a o) v t' (O i)):
  Ev K H0 G0 G (upd H a o) σ (Δ.set i (Sl.mk b t')) (setA O i (O i)):=
 have ms:=MStep.write E.st.gh m (E.out i a m).1 o
 E.step2 (Sl.mk_own b t') (Sl.mk_lk b t') (E.mk_lt e q t') ms.weak s1 (λb hb=>⟨.inl hb,(E.out i b hb).1,ms.al b (E.out i b hb).2.2⟩) t1
def Ow.dic_of{G H:Hp}{zn:List (At×Tn)}{S:AS}(t:Ow K G H v (.dic zn) S):∃a kvs S1,v=.ref a/\S a/\H a=some (.dK kvs)/\kvs.map (·.1)=zn.map (·.1)/\(∀b,S1 b->S b/\b≠a)/\OwL K G H (kvs.map (·.2)) (zn.map (·.2)) S1:=by
 cases t with
 |dic h hk ha sub r=>exact⟨_,_,_,rfl,ha,h,hk,sub,r⟩
section
variable{X:Cx}{EX:Bo}{pos:Pos}
def bn_6(i:Nat)(f1 f2 fe:FE):FS:=λ Δ=>match(Δ[i]?).bind Sl.tree with
 |some (.dic zn,lk)=>(match fe (Bb Δ) with
  | .ok w=>(match f1 (As Δ) with
   | .ok z1=>(match Di z1.d with
    |some k1=>(match Dt zn k1 with
     |some (.dic kt2)=>(match unS kt2 with
      |some kds=>(match f2 (As Δ) with
       | .ok z2=>(match Di z2.d with
        |some k2=>if kds.length < 16777216 then .nx (Δ.set i (Sl.mk lk (.dic (Em zn k1 (Tn.of (.dic (Ds kds k2 w.d))))))) else .no
        |none=> .no)
       |_=> .no)
      |none=> .no)
     |_=> .no)
    |none=> .no)
   |_=> .no)
  |_=> .no)
 |_=> .no
def dq_6{i:Nat}{x:Str}{e e1 e2:Expr}{fe f1 f2:FE}{p1 p2 zj pos:Pos}(hu:X.A.units + 64 < cLine)(he:ED X EX e fe)(h1:ED X EX e1 f1)(h2:ED X EX e2 f2)(hN:X.N[i]? =some x:=by rfl)(hv:Vis X.env.scope x:=by first|exact Or.inl rfl|exact Or.inr (Or.inl rfl)|exact Or.inr (Or.inr rfl))(hd:(x ==("__debug__" :Str))=false:=by decide)
  (hcd:(x ==("__classdict__" :Str))=false:=by decide) (hn1:NoSl e1:=by intro _ _;rfl) (hs:swapsWith e (some (.Subscript (.Subscript (.Name x p1) e1 p2) e2 zj)) pos.line X.env=pure false:=by rfl):
  SD X EX (.Assign [.Subscript (.Subscript (.Name x p1) e1 p2) e2 zj] e pos) (bn_6 i f1 f2 fe):=
 PS.imp (bs_2 (by omega) (bs_1 (by omega) (Fe hN hv hd hcd) h1 hn1) h2 he hs) λD σ H ⟨H0,G0,G,Δ,O,E,q⟩=>by
  unfold bn_6 at q
  split at q
  ·rename_i zn lk e0;obtain⟨s,e1,etr⟩:=Option.bind_eq_some_iff.mp e0;obtain⟨v0,s1,t⟩:=E.ow i _ _ e1 (Sl.tree_own etr);obtain⟨a,kvs,S1,rfl,m,hH,hk,sub,rl⟩:=t.dic_of;refine⟨G,Bb Δ,E.st.gh,E.gsh, ?_⟩;cases e2:fe (Bb Δ) with
   |ex x=>simp only [e2] at q;exact q.elim
   |no=>simp only [e2] at q;exact q.elim
   |ok w=>
    simp only [e2] at q;refine WP.intro λv G' H' st r=> ?_;have E2:=E.grow st;refine⟨.ref a,s1,Fy G' H' O,As Δ,E2.aH,E2.gall, ?_⟩;cases e3:f1 (As Δ) with
    |ex x=>simp only [e3] at q;exact q.elim
    |no=>simp only [e3] at q;exact q.elim
    |ok z1=>
     simp only [e3] at q;refine WP.intro λv1 G1 H1 st1 r1=> ?_
     split at q
     ·rename_i k1 ek1
      split at q
      ·rename_i kt2 ev
       split at q
       ·rename_i kds eu;have hv1:=ad_9 r1 ek1;subst hv1;have E3:=E2.keep st1.hh;obtain⟨vb,s1',t3⟩:=E3.ow i _ _ e1 (Sl.tree_own etr);obtain⟨a',bq,S1',ea,m',hH',hk',ax,rl'⟩:=t3.dic_of;rw [s1] at s1';cases s1';cases ea;obtain⟨vc,Sc,ec,tc,ic,fc⟩:=OwL.focusK k1 hk' rl' ev;have tc':=tc;rw [be_6 eu] at tc';obtain⟨c,kvc,rfl,mc,hHc,hkc,rlc⟩:=Ow.dict_of (kds:=kds) tc';refine⟨a,.ref c,rfl, ?_, ?_⟩
        ·exact Or.inl ⟨bq,k1,.inl hH',rfl,ec.symm⟩
        refine⟨Fy G' H1 O,As Δ,E3.aH,E3.gall, ?_⟩;cases e4:f2 (As Δ) with
        |ex x=>simp only [e4] at q;exact q.elim
        |no=>simp only [e4] at q;exact q.elim
        |ok z2=>
         simp only [e4] at q;refine WP.intro λv2 G2 H2 st2 r2=> ?_
         split at q
         ·rename_i k2 ek2
          split at q
          ·rename_i hl;have hv2:=ad_9 r2 ek2;subst hv2;have E4:=E3.keep st2.hh;have bj:H2 c=some (.dK kvc):=st2.hh _ _ hHc;have hle:kvc.length=kds.length:=by
            have:=congrArg List.length hkc
            rwa [List.length_map,List.length_map] at this
           obtain⟨p1,p2⟩:=cr_5 k2 hkc rlc r;have hca:c≠a:=(ax c (ic c mc)).2;refine⟨c,_,rfl,DPut.k bj (by rw [hle,sizeLine_eq];exact hl),q σ G' _ _ (E4.writeIn e1 etr s1 (ax c (ic c mc)).1 ?_) st.gg⟩;refine Ow.dic (S1:=S1') (by rw [Bm (Ne.symm hca)];exact st2.hh _ _ hH') (by rw [av_0];exact hk') m' ax ?_;refine fc (λb o hb nb z=> ?_) (Ow.dict Cs p1 mc p2);rw [Bm (show b≠c from λw=>nb (by rw [w];exact mc))];exact st2.hh _ _ z
          ·exact q.elim
         ·exact q.elim
       ·exact q.elim
      ·exact q.elim
     ·exact q.elim
  ·exact q.elim
end
theorem cc_0{G:Hp}(k:At):∀{kvs:List (At×V)} {kds:List (At×D)},kvs.map (·.1)=kds.map (·.1)->HasL K G (kvs.map (·.2)) (kds.map (·.2))->(Gs kvs k).map (·.1)=(Fs kds k).map (·.1)/\HasL K G ((Gs kvs k).map (·.2)) ((Fs kds k).map (·.2))
 | [],[],_,_=>⟨rfl,.nil⟩
 | [],_::_,e,_=>by simp at e
 |_::_,[],e,_=>by simp at e
 |(x,v)::kvs,(y,d)::kds,e,r=>by
  simp only [List.map_cons,List.cons.injEq] at e;obtain⟨e1,e2⟩:=e;subst e1;cases r with
  |cons h r=>
   obtain⟨i1,i2⟩:=cc_0 k (kvs:=kvs) (kds:=kds) e2 r
   by_cases q:x=k
   ·have a1:Gs ((x,v)::kvs) k=Gs kvs k:=cw_2 q;have a2:Fs ((x,d)::kds) k=Fs kds k:=by unfold Fs;rw [List.filter_cons_of_neg (by simpa using q)]
    rw [a1,a2];exact⟨i1,i2⟩
   ·have a1:Gs ((x,v)::kvs) k=(x,v)::Gs kvs k:=bm_7 q;have a2:Fs ((x,d)::kds) k=(x,d)::Fs kds k:=by unfold Fs;rw [List.filter_cons_of_pos (by simpa using q)]
    rw [a1,a2];exact⟨by rw [List.map_cons,List.map_cons,i1],.cons h i2⟩
section
variable{X:Cx}{EX:Bo}{pos:Pos}
def cr_6(i:Nat)(f1 f2:FE):FS:=λ Δ=>match(Δ[i]?).bind Sl.tree with
 |some (.dic zn,lk)=>(match f1 (As Δ) with
   | .ok z1=>(match Di z1.d with
    |some k1=>(match Dt zn k1 with
     |some (.dic kt2)=>(match unS kt2 with
      |some kds=>(match f2 (As Δ) with
       | .ok z2=>(match Di z2.d with
        |some k2=> .nx (Δ.set i (Sl.mk lk (.dic (Em zn k1 (Tn.of (.dic (Fs kds k2)))))))
        |none=> .no)
       |_=> .no)
      |none=> .no)
     |_=> .no)
    |none=> .no)
   |_=> .no)
 |_=> .no
def dq_7{i:Nat}{x:Str}{e1 e2:Expr}{f1 f2:FE}{j:Nat}{p1 p2 p3 zh zf pos:Pos}(hu:X.A.units + 64 < cLine)(h1:ED X EX e1 f1)(h2:ED X EX e2 f2)(hN:X.N[i]? =some x:=by rfl)(hv:Vis X.env.scope x:=by first|exact Or.inl rfl|exact Or.inr (Or.inl rfl)|exact Or.inr (Or.inr rfl))(hd:(x ==("__debug__" :Str))=false:=by decide)
  (hcd:(x ==("__classdict__" :Str))=false:=by decide) (hn1:NoSl e1:=by intro _ _;rfl) (hm:M2 X (.Subscript (.Name x p1) e1 p2) "pop" zh e2 (.Constant .none j p3) zf:=by exact⟨rfl,rfl,rfl,rfl⟩)
  (hs:swapsWith (.Call (.Attribute (.Subscript (.Name x p1) e1 p2) "pop" zh) [e2,.Constant .none j p3] [] zf) none pos.line X.env=pure false:=by rfl):
  SD X EX (.Expr (.Call (.Attribute (.Subscript (.Name x p1) e1 p2) "pop" zh) [e2,.Constant .none j p3] [] zf) pos) (cr_6 i f1 f2):=
 PS.imp (ad_5 (dd_7 (bs_1 (by omega) (Fe hN hv hd hcd) h1 hn1) h2 da_7 hm) hs) λD σ H ⟨H0,G0,G,Δ,O,E,q⟩=>by
  unfold cr_6 at q
  split at q
  ·rename_i zn lk e0;obtain⟨s,e1,etr⟩:=Option.bind_eq_some_iff.mp e0;obtain⟨v0,s1,t⟩:=E.ow i _ _ e1 (Sl.tree_own etr);obtain⟨a,kvs,S1,rfl,m,hH,hk,sub,rl⟩:=t.dic_of;refine⟨.ref a,s1,Fy G H O,As Δ,E.aH,E.gall, ?_⟩;cases e3:f1 (As Δ) with
   |ex x=>simp only [e3] at q;exact q.elim
   |no=>simp only [e3] at q;exact q.elim
   |ok z1=>
    simp only [e3] at q;refine WP.intro λv1 G1 H1 st1 r1=> ?_
    split at q
    ·rename_i k1 ek1
     split at q
     ·rename_i kt2 ev
      split at q
      ·rename_i kds eu;have hv1:=ad_9 r1 ek1;subst hv1;have E3:=E.keep st1.hh;obtain⟨vb,s1',t3⟩:=E3.ow i _ _ e1 (Sl.tree_own etr);obtain⟨a',bq,S1',ea,m',hH',hk',ax,rl'⟩:=t3.dic_of;rw [s1] at s1';cases s1';cases ea;obtain⟨vc,Sc,ec,tc,ic,fc⟩:=OwL.focusK k1 hk' rl' ev;have tc':=tc;rw [be_6 eu] at tc';obtain⟨c,kvc,rfl,mc,hHc,hkc,rlc⟩:=Ow.dict_of (kds:=kds) tc';refine⟨a,.ref c,rfl,Or.inl ⟨bq,k1,.inl hH',rfl,ec.symm⟩,c,rfl,.inl ⟨kvc,.inl hHc⟩, ?_⟩;refine⟨Fy G H1 O,As Δ,E3.aH,E3.gall, ?_⟩;cases e4:f2 (As Δ) with
       |ex x=>simp only [e4] at q;exact q.elim
       |no=>simp only [e4] at q;exact q.elim
       |ok z2=>
        simp only [e4] at q;refine WP.intro λv2 G2 H2 st2 r2=> ?_
        split at q
        ·rename_i k2 ek2;have hv2:=ad_9 r2 ek2;subst hv2;have E4:=E3.keep st2.hh;have bj:H2 c=some (.dK kvc):=st2.hh _ _ hHc;have hca:c≠a:=(ax c (ic c mc)).2;obtain⟨p1,p2⟩:=cc_0 k2 hkc rlc;have fin:∀o:HO,o=.dK (Gs kvc k2)->D.nx σ (upd H2 c o):=λo eo=>by
          subst eo;refine q σ G _ _ (E4.writeIn e1 etr s1 (ax c (ic c mc)).1 ?_) (Same.refl _);refine Ow.dic (S1:=S1') (by rw [Bm (Ne.symm hca)];exact st2.hh _ _ hH') (by rw [av_0];exact hk') m' ax ?_;refine fc (λb o hb nb z=> ?_) (Ow.dict Cs p1 mc p2);rw [Bm (show b≠c from λw=>nb (by rw [w];exact mc))];exact st2.hh _ _ z
         refine⟨kvc,k2,bj,rfl,λv _=>fin _ rfl,λen=> ?_⟩;have:H2=upd H2 c (.dK (Gs kvc k2)):=by
          rw [ca_1 (dd_8 en)]
          funext b
          by_cases z:b=c
          ·rw [z,Cs,bj]
          ·rw [Bm z]
         show D.nx σ H2;rw [this];exact fin _ rfl
        ·exact q.elim
      ·exact q.elim
     ·exact q.elim
    ·exact q.elim
  ·exact q.elim
def bn_7(i:Nat)(f1:FE):FS:=λ Δ=>match(Δ[i]?).bind Sl.tree with
 |some (.dic zn,lk)=>(match f1 (As Δ) with
   | .ok z1=>(match Di z1.d with
    |some k1=>if(Dt zn k1).isSome then .no else if zn.length < 16777216 then .nx (Δ.set i (Sl.mk lk (.dic (zn ++ [(k1,.dic [])])))) else .no
    |none=> .no)
   |_=> .no)
 |_=> .no
def dq_8{i:Nat}{x:Str}{e1:Expr}{f1:FE}{p1 p2 zj pos:Pos}(hu:X.A.units + 64 < cLine)(h1:ED X EX e1 f1)(hN:X.N[i]? =some x:=by rfl)(hv:Vis X.env.scope x:=by first|exact Or.inl rfl|exact Or.inr (Or.inl rfl)|exact Or.inr (Or.inr rfl))(hd:(x ==("__debug__" :Str))=false:=by decide)
  (hcd:(x ==("__classdict__" :Str))=false:=by decide) (hs:swapsWith (.Dict [] [] p2) (some (.Subscript (.Name x p1) e1 zj)) pos.line X.env=pure false:=by rfl):
  SD X EX (.Assign [.Subscript (.Name x p1) e1 zj] (.Dict [] [] p2) pos) (bn_7 i f1):=
 PS.imp (bs_2 (by omega) (Fe hN hv hd hcd) h1 ca_0 hs) λD σ H ⟨H0,G0,G,Δ,O,E,q⟩=>by
  unfold bn_7 at q
  split at q
  ·rename_i zn lk e0;obtain⟨s,e1,etr⟩:=Option.bind_eq_some_iff.mp e0;intro p hp;have E1:=E.keep (o_0 hp (.dK []));obtain⟨v0,s1,t⟩:=E1.ow i _ _ e1 (Sl.tree_own etr);obtain⟨a,kvs,S1,rfl,m,hH,hk,sub,rl⟩:=t.dic_of;refine⟨.ref a,s1,Fy G (upd H p (.dK [])) O,As Δ,E1.aH,E1.gall, ?_⟩;cases e3:f1 (As Δ) with
   |ex x=>simp only [e3] at q;exact q.elim
   |no=>simp only [e3] at q;exact q.elim
   |ok z1=>
    simp only [e3] at q;refine WP.intro λv1 G1 H1 st1 r1=> ?_
    split at q
    ·rename_i k1 ek1
     split at q
     ·exact q.elim
     ·rename_i hno
      split at q
      ·rename_i hl;have hv1:=ad_9 r1 ek1;subst hv1;have E3:=E1.keep st1.hh;have hH1:H1 a=some (.dK kvs):=st1.hh _ _ hH;have hp1:H1 p=some (.dK []):=st1.hh _ _ Cs;have hle:kvs.length=zn.length:=by
        have:=congrArg List.length hk
        rwa [List.length_map,List.length_map] at this
       have npO:∀j b,O j b->b≠p:=λj b hb z=>(E.out j b hb).2.2 (by rw [z];exact hp);have hap:a≠p:=npO i a m;refine⟨a,_,rfl,DPut.k hH1 (by rw [hle,sizeLine_eq];exact hl), ?_⟩;have eg:(kvs.any λkv=>decide (kv.1=k1))=false:=by
        rw [be_5 k1 hk];cases h:zn.any λkv=>decide (kv.1=k1) with
        |false=>rfl
        |true=>
         exfalso;apply hno;unfold Dt;rw [Option.isSome_map,List.find?_isSome];exact List.any_eq_true.mp h
       have gj:Dk kvs k1 (.ref p)=kvs ++ [(k1,.ref p)]:=by
        rw [cr_4];unfold Ds;rw [eg];rfl
       rw [gj];have Gp:G p=none:=E.st.gh.free hp;have old:∀b o,H b=some o->H1 b=some o:=λb o z=>st1.hh _ _ (o_0 hp _ b o z);have ms:MStep2 (O i) G H G (upd H1 a (.dK (kvs ++ [(k1,.ref p)]))):=⟨λb o nb z=>by rw [Bm (λw=>nb (by rw [w];exact m))];exact old b o z,λb o z=>by
        have:b≠a:=λw=>by rw [w,(E.out i a m).1] at z;cases z
        rw [Bm this];exact old b o (E.st.gh b o z),Same.refl _,λb _ z _=>z⟩
       refine q σ G _ _ (E.step2 (S:=λb=>O i b\/b=p) (Sl.mk_own lk _) (Sl.mk_lk lk _) (E.mk_lt e1 etr _) ms s1 (λb hb=> ?_) ?_) (Same.refl _)
       ·rcases hb with hb|hb
        ·refine⟨.inl hb,(E.out i b hb).1, ?_⟩
         by_cases w:b=a
         ·rw [w,Cs];simp
         ·rw [Bm w];cases e:H b with
          |none=>exact absurd e (E.out i b hb).2.2
          |some o=>rw [old b o e];simp
        ·subst hb;exact⟨.inr hp,Gp,by rw [Bm (Ne.symm hap),hp1];simp⟩
       ·refine Ow.dic (S1:=λb=>S1 b\/b=p) Cs (by rw [List.map_append,List.map_append,hk];rfl) (.inl m) (λb hb=> ?_) ?_
        ·rcases hb with hb|hb
         ·exact⟨.inl (sub b hb).1,(sub b hb).2⟩
         ·subst hb;exact⟨.inr rfl,Ne.symm hap⟩
        ·rw [List.map_append,List.map_append];refine OwL.append (S2:=λb=>b=p) (rl.mono (Same.refl _) (λb o hb z=> ?_) λ_ z=>z) (.cons (S1:=λb=>b=p) (S2:=λ_=>False) (.dic (S1:=λ_=>False) (by rw [Bm (Ne.symm hap)];exact hp1) rfl rfl (λ_ z=>z.elim) .nil) .nil (λ_ _ z=>z) (λ_ z=>z) λ_ z=>z.elim) (λb z1 z2=>npO i b (sub b z1).1 z2) (λb z=> .inl z) λb z=> .inr z;rw [Bm (sub b hb).2];exact st1.hh _ _ z
      ·exact q.elim
    ·exact q.elim
  ·exact q.elim
end
def kD:At->D
 | .inl i=> .int i
 | .inr x=> .str x
def ec_2{G:Hp}(k:At):Has K G (kV k) (kD k):=by cases k <;> constructor
theorem cr_7{G:Hp}:∀ks:List At,HasL K G (ks.map kV) (ks.map kD)
 | []=> .nil
 |k::ks=> .cons (ec_2 k) (cr_7 ks)
def dg_1{w:World}{k:At}{u:Value}(h:(i_9 P w).is k u=true):RelV (kV k) u:=by
 rcases j_0 h with⟨i,t,rfl,rfl⟩|⟨x,t,rfl,rfl⟩
 ·exact⟨t,rfl⟩
 ·exact⟨t,rfl⟩
theorem bn_8{w:World}:∀{kvs:List (At×V)} {vs:List (At×Value)} {us:List Value},KV kvs vs->us.length=vs.length->(∀(j:Nat) v,us[j]? =some v->∃k x,vs[j]? =some (k,x)/\(i_9 P w).is k v=true)->Vals ((kvs.map (·.1)).map kV) us
 | [],vs,us,r,hl,_=>by
  have:=r.length;simp at this;have:us= []:=List.eq_nil_of_length_eq_zero (by omega);subst this;exact .nil
 |(k,v)::kvs,vs,us,r,hl,h=>by
  cases r with
  |cons h1 r=>
   rename_i q vs;obtain⟨k',x⟩:=q;cases us with
   |nil=>simp at hl
   |cons u us=>
    obtain⟨k2,x2,e,i⟩:=h 0 u rfl;have e:(k',x)=(k2,x2):=by simpa using e
    cases e;have e1:k=k':=h1.1;subst e1;exact .cons (dg_1 i) (bn_8 r (by simpa using hl) λj v e=>by
     obtain⟨a,b,c,d⟩:=h (j + 1) v (by simpa using e);exact⟨a,b,by simpa using c,d⟩)
section
variable{X:Cx}{EX:Bo}{pos:Pos}
def cr_8:List D->R W
 | [.dic kvs]=> .ok (.ow (.lst (kvs.map λp=>kD p.1)))
 |_=> .no
def cl_7(hc:X.calm=true):z_3 X (.type "list") cr_8:=by
 intro zd s σ H vs us Q I rv q;obtain⟨EX,G,ds,g,r,o⟩:=q;cases r with
 |nil=>exact False.elim o
 |cons h t=>
  cases t with
  |cons _ _=>cases h <;> exact False.elim o
  |nil=>
   cases h with
   |dic h hk r=>
    rename_i kvs kds;obtain⟨u,rfl,ru⟩:=rv.one;cases ru;obtain⟨z,lo,ws,kv,dd⟩:=aq_5 I.hok (Same.rdD g h);obtain⟨ep,da⟩:=dd.dictAt;refine kdl_call (kdl_dict lo) (I.ok.hd hc) da (by rw [<-kv.length];exact z) λh' tk zp c kk hat it=> ?_;have rv':Vals ((kvs.map (·.1)).map kV) zp.toList:=bn_8 kv (by rw [Array.length_toList];exact it.1) λj v e=>it.2 j v (by rw [<-Array.getElem?_toList];exact e);have fr:=I.hok.fresh (Nat.le_refl _);refine⟨.ref _,upd H _ (.lst _),I.laid (t':=tk) kk (Nat.le_refl _) ⟨?_,zp.toList,c,rv',by simpa using hat⟩,rfl, ?_⟩
    ·rw [List.length_map,List.length_map];exact z
    ·have e:(kds.map λp=>kD p.1)=(kvs.map (·.1)).map kD:=by rw [hk,List.map_map];rfl
     have o':Out X.K EX G H (.ok (.ow (.lst ((kvs.map (·.1)).map kD)))) Q:=by rw [<-e];exact o
     exact z_1 o' g (cr_7 _) _ fr
   |_=>exact False.elim o
def minK:List D->R W
 | [.dic kvs]=>(match kvs with
  | [(.inl i,_)]=> .ok (.sh (.int i))
  |_=> .no)
 |_=> .no
def cx_4(hc:X.calm=true):z_3 X (.builtin "min") minK:=by
 intro zd s σ H vs us Q I rv q;obtain⟨EX,G,ds,g,r,o⟩:=q;cases r with
 |nil=>exact False.elim o
 |cons h t=>
  cases t with
  |cons _ _=>cases h <;> exact False.elim o
  |nil=>
   cases h with
   |dic h hk r=>
    rename_i kvs kds;cases kds with
    |nil=>exact False.elim o
    |cons p kds=>
     obtain⟨k,d⟩:=p;cases k with
     |inr x=>exact False.elim o
     |inl i=>
      cases kds with
      |cons _ _=>exact False.elim o
      |nil=>
       obtain⟨u,rfl,ru⟩:=rv.one;cases ru;obtain⟨z,lo,ws,kv,dd⟩:=aq_5 I.hok (Same.rdD g h);obtain⟨ep,da⟩:=dd.dictAt;have hws:∃x,ws= [(.inl i,x)]:=by
        have e1:=kv.keys;rw [hk] at e1;cases ws with
        |nil=>simp at e1
        |cons q ws=>
         cases ws with
         |cons _ _=>simp at e1
         |nil=>
          obtain⟨k',x⟩:=q;have:(.inl i:At)=k':=by simpa using e1
          subst this;exact⟨x,rfl⟩
       obtain⟨x,rfl⟩:=hws;obtain⟨oI,St,hit,W,st⟩:=(kdl_dict (knd:=i_9 X.prog X.w) lo).iter X.A.in1 s (I.ok.hd hc) da;refine call_min_walk (hit _ _ ⟨_,_,_,_,_,_,λa b=>decide ((λ_=>i) a < (λ_=>i) b),rfl,W,st,λb hb=> ?_,Nat.zero_lt_one,CmpOf.ints_lt (λ_=>i) (λj v hj=> ?_),λv h' tk hP hk'=> ?_⟩)
       ·show b < (s.heap.push oI).objs.size;rw [Heap.size_push];rcases List.mem_cons.mp hb with e|hb
        ·rw [e];exact Nat.lt_succ_self _
        ·rw [List.mem_singleton.mp hb];exact Nat.lt_succ_of_lt da.lt_size
       ·obtain⟨k,y,e1,e2⟩:=hj;cases j with
        |zero=>
         cases e1;exact dg_1 e2
        |succ j=>simp at e1
       ·obtain⟨k,y,e1,e2⟩:=hP;have e1:((.inl i,x):At×Value)=(k,y):=by simpa [argBest] using e1
        cases e1;obtain⟨t,rfl⟩:=dg_1 e2;have old:∀b o,s.heap.get? b=some o->h'.get? b=some o:=λb o e=>
         hk' b o (λhm=>absurd (Heap.lt_size e) (by rw [List.mem_singleton.mp hm];exact Nat.lt_irrefl _)) (Heap.get?_push_of_some _ e)
        exact⟨.int i,H,I.kept (t':=tk) old,⟨t,rfl⟩,Dc o g (.int _)⟩
   |_=>exact False.elim o
end
def cl_8(l b:Addr)(xs ys:Array Value)(n m:Nat)(dd:Option Addr)(sl:Array (Option Value))(h0:¬(!xs.isEmpty && Builtin.List.listTooLong (xs.size + ys.size))=true)(h1:xs.size<=sizeLine)(h2:xs.size + ys.size<=sizeLine + 1):
  Meets (Builtin.«list.extend» ⟨[.ref l,.ref b],[]⟩) (λ_ R s=>s.heap.get? l=some {cls:=.type "list",data:=.seq xs n}/\s.heap.get? b=some ⟨.type "tuple",dd,.seq ys m,sl⟩/\
   R (.ok (.ret Value.none)) {s with heap:=s.heap.update l (Obj.mapSeq λz=>z ++ ys),toks:=s.toks}):=
 .of_wp λprog w A R s h=>by
  obtain⟨hp,g,d,tk,os⟩:=s;obtain⟨ha,hc,h⟩:=h;have g1:=AutoSeq1.idx_int;have g2:=AutoSeq1.sub_tuple_tuple;have g3:=AutoSeq1.sub_list_list;have g4:=AutoSeq1.sub_tuple_list;have g5:=AutoSeq1.sub_list_tuple;have hz:(xs ++ ys).size<=sizeLine + 1:=by rw [Array.size_append];exact h2
  wp_walk using(wpAny_updateSeq ha rfl (hz:=h1) (_hz':=hz)),wpAny_loadPart' ha,wpAny_loadPart' hc
  exact⟨_,rfl,h⟩
section
variable{X:Cx}{EX:Bo}{pos:Pos}
def ei_8(K:Frag):V->List V->Hp->VK->Prop:=λx vs H Q=>∃l b xs zs,x=.ref l/\vs= [.ref b]/\H l=some (.lst xs)/\SqT K H b zs/\xs.length + zs.length<=sizeLine/\Q .non (upd H l (.lst (xs ++ zs)))
def dq_9:MtM X "list.extend" (ei_8 X.K):=by
 intro zd s σ H x vs v us Q I rx rv h;obtain⟨l,b,xs,zs,rfl,rfl,hH,hB,hz,q⟩:=h;cases rx;obtain⟨u,rfl,ru⟩:=rv.one;cases ru;obtain⟨z,its,n,r,hl,e⟩:=I.lstM hH;obtain⟨its2,r2,⟨o,e2,c2,n2,dat⟩,z2⟩:=I.tuple hB;have hl2:=r2.length;obtain⟨cls,dd,data,sl⟩:=o;simp only at c2 dat;subst c2 dat;have hsz:its.toArray.size + its2.toArray.size<=sizeLine:=by rw [List.size_toArray,List.size_toArray];omega
 have aw:¬(!its.toArray.isEmpty && Builtin.List.listTooLong (its.toArray.size + its2.toArray.size))=true:=by
  rw [bz_5 hsz,Bool.and_false];simp
 refine call_meets PySem.F.slot_list_extend ⟨_,e,rfl⟩ PySem.F.entry_list_extend (PySem.F.args_list_extend_2 _ _) (cl_8 l b its.toArray its2.toArray n n2 dd sl aw (by rw [List.size_toArray];omega) (by omega)) ⟨e,e2, ?_⟩;refine⟨.non,_,I.lset (its':=its ++ its2) hH e (by simp) (r.append r2) ?_,rfl,q⟩;rw [List.length_append];omega
def sExt(i:Nat)(f:FE):FS:=λ Δ=>match Δ[i]? with
 |some (.ow (.lst ds))=>(match f (Bb Δ) with
  | .ok w=>(match w.d with
   | .tup es=>if ds.length + es.length<=16777216 then .nx (Δ.set i (.ow (.lst (ds ++ es)))) else .no
   |_=> .no)
  |_=> .no)
 |_=> .no
def ec_3{i:Nat}{x:Str}{e:Expr}{f:FE}{p1 zh zf:Pos}(he:ED X EX e f)(hN:X.N[i]? =some x:=by rfl)(hv:Vis X.env.scope x:=by first|exact Or.inl rfl|exact Or.inr (Or.inl rfl)|exact Or.inr (Or.inr rfl))(hd:(x ==("__debug__" :Str))=false:=by decide)
  (hcd:(x ==("__classdict__" :Str))=false:=by decide) (hsw:swapsWith (.Call (.Attribute (.Name x p1) "extend" zh) [e] [] zf) none pos.line X.env=pure false:=by rfl)
  (ae:attributeBase (.Name x p1) "extend" X.env (eval (.Name x p1) X.env)=eval (.Name x p1) X.env:=by rfl)
  (au:((backTo zf (starEach [e] X.env)).all (λx=> !x.1) && (backToKw zf (keywordEach [] X.env)).all (λx=>x.1.isSome)
   && decide ([e].length + ([]:List Keyword).length + (if([]:List Keyword).isEmpty then 0 else 1) < 30))=true:=by rfl)
  (aa:(zh.endLine ==zf.line)=true:=by rfl) (hs:starEach [e] X.env=(false,eval e X.env)::starEach [] X.env:=by rfl) (af:(backTo zf (starEach [] X.env)).any (·.1)=false:=by rfl):
  SD X EX (.Expr (.Call (.Attribute (.Name x p1) "extend" zh) [e] [] zf) pos) (sExt i f):=
 PS.imp (ad_5 (cp_9 PySem.F.plainAttrs_list PySem.F.slot_list_extend PySem.F.type_list_extend dq_9 (Fe hN hv hd hcd) (k_0 he w_4 hs) ae au aa hs af) hsw) λD σ H ⟨H0,G0,G,Δ,O,E,q⟩=>by
  unfold sExt at q
  split at q
  ·rename_i ds e1;obtain⟨v0,s1,t⟩:=E.ow i _ _ e1 rfl;obtain⟨a,vs,rfl,m,hH,rl⟩:=t.list_of;refine⟨.ref a,s1,.inl ⟨rfl,_,SqL.of hH⟩,G,Bb Δ,E.st.gh,E.gsh, ?_⟩;cases e2:f (Bb Δ) with
   |ex x=>simp only [e2] at q;exact q.elim
   |no=>simp only [e2] at q;exact q.elim
   |ok w=>
    simp only [e2] at q;refine WP.intro λv G' H' st r=> ?_;revert q r;cases w.d with
    |tup es=>
     intro q r;simp only at q
     split at q
     ·rename_i hz;cases r with
      |tup h r=>exact⟨a,_,vs,_,rfl,rfl,st.hh _ _ hH,Same.tupS st.gh h,by rw [rl.length,r.length,sizeLine_eq];exact hz,q σ G' _ _ ((E.grow st).writeL s1 m ((rl.mono st.gg).append r)) st.gg⟩
     ·exact q.elim
    |_=>intro q _;exact False.elim q
  ·exact q.elim
def cc_1(i j:Nat):FS:=λ Δ=>match Δ[j]? with
 |some (.ow (.lst ds))=>(match ds[ds.length - 1]? with
  |some d=> .nx ((Δ.set j (.ow (.lst ds.dropLast))).set i (.sh d))
  |none=> .no)
 |_=> .no
theorem HasL.dropLast{G:Hp}{ds:List D}(h:HasL K G vs ds):HasL K G vs.dropLast ds.dropLast:=by
 rw [List.dropLast_eq_take,List.dropLast_eq_take,h.length];exact h.take _
def dr_1{i j:Nat}{x y:Str}{p1 p2 zh zf:Pos}(hN:X.N.Nodup)(hi:X.N[i]? =some x:=by rfl)(hx:Loc X.env.scope x:=by first|exact Or.inl rfl|exact Or.inr rfl)(hj:X.N[j]? =some y:=by rfl)(hv:Vis X.env.scope y:=by first|exact Or.inl rfl|exact Or.inr (Or.inl rfl)|exact Or.inr (Or.inr rfl))(hd:(y ==("__debug__" :Str))=false:=by decide)
  (hcd:(y ==("__classdict__" :Str))=false:=by decide) (hs:swapsWith (.Call (.Attribute (.Name y p1) "pop" zh) [] [] zf) (some (.Name x p2)) pos.line X.env=pure false:=by rfl)
  (hf:X.fn x=true\/X.env.scope.names.lookup x=some .local:=by first|exact .inl rfl|exact .inr rfl|assumption)
  (ae:attributeBase (.Name y p1) "pop" X.env (eval (.Name y p1) X.env)=eval (.Name y p1) X.env:=by rfl) (aa:(zh.endLine ==zf.line)=true:=by rfl):
  SD X EX (.Assign [.Name x p2] (.Call (.Attribute (.Name y p1) "pop" zh) [] [] zf) pos) (cc_1 i j):=
 PS.imp (ci_9 hN hi hx (dc_4 PySem.F.plainAttrs_list PySem.F.slot_list_pop PySem.F.type_list_pop ea_1 (Fe hj hv hd hcd) ae aa) hs hf) λD σ H ⟨H0,G0,G,Δ,O,E,q⟩=>by
  unfold cc_1 at q
  split at q
  ·rename_i ds e1;obtain⟨v0,s1,t⟩:=E.ow j _ _ e1 rfl;obtain⟨a,vs,rfl,m,hH,rl⟩:=t.list_of
   split at q
   ·rename_i d e2;rw [<-rl.length] at e2;obtain⟨v,e3,hv⟩:=rl.get e2;exact⟨.ref a,s1,.inl ⟨rfl,_,SqL.of hH⟩,a,vs,v,rfl,rfl,hH,e3,q _ G _ _ ((E.writeL s1 m rl.dropLast).put hv) (Same.refl _)⟩
   ·exact q.elim
  ·exact q.elim
theorem HasL.eraseIdx{G:Hp}:∀{vs:List V} {ds:List D} (n:Nat),HasL K G vs ds->HasL K G (vs.eraseIdx n) (ds.eraseIdx n)
 |_,_,_,.nil=> .nil
 |_,_,0,.cons _ r=>r
 |_,_,n + 1,.cons h r=> .cons h (HasL.eraseIdx n r)
def cc_2(i:Nat)(f:FE):FS:=λ Δ=>match f (As Δ) with
 | .ok (.ow (.lst ds))=>if ds.all Bc=true then .nx (Δ.set i (.ow (.lst ds))) else .no
 |_=> .no
theorem HasL.ofFl{G G':Hp}:∀{vs:List V} {ds:List D},HasL K G vs ds->ds.all Bc=true->HasL K G' vs ds
 |_,_,.nil,_=> .nil
 |_,_,.cons h r,f=>by
  rw [List.all_cons,Bool.and_eq_true] at f;exact .cons (h.ofFl f.1) (HasL.ofFl r f.2)
def dr_2{i:Nat}{x:Str}{e:Expr}{f:FE}{pos':Pos}(he:ED X EX e f)(hN:X.N.Nodup)(hi:X.N[i]? =some x:=by rfl)(hx:Loc X.env.scope x:=by first|exact Or.inl rfl|exact Or.inr rfl)(hs:swapsWith e (some (.Name x pos')) pos.line X.env=pure false:=by rfl)
  (hf:X.fn x=true\/X.env.scope.names.lookup x=some .local:=by first|exact .inl rfl|exact .inr rfl|assumption):SD X EX (.Assign [.Name x pos'] e pos) (cc_2 i f):=
 PS.imp (ci_9 hN hi hx he hs hf) λD σ H ⟨H0,G0,G,Δ,O,E,q⟩=>by
  unfold cc_2 at q;refine⟨Fy G H O,As Δ,E.aH,E.gall, ?_⟩
  split at q
  ·rename_i ds e1
   split at q
   ·rename_i fl;rw [e1];intro v S G' H' st fr t;obtain⟨a,vs,rfl,m,hH,rl⟩:=t.list_of;have nG:G a=none:=E.st.gh.free (fr a m).1;refine q _ G H' _ ((E.keep st.hh).putO (S:=λb=>b=a) (λb hb=> ?_) rfl (λ_ z=>by cases z) (Ow.list hH rfl (rl.ofFl fl)) λj b hj hb=> ?_) (Same.refl _)
    ·subst hb;exact⟨E.st.hh.free (fr b m).1,nG,by rw [hH];simp⟩
    ·subst hb;exact(E.out j b hj).2.2 (fr b m).1
   ·exact q.elim
  ·exact q.elim
end
def bt_2(n:Nat)(ds:List D)(t:Tn):SE:=(Az n ds).set ds.length (.lt t)
def cc_3(n:Nat)(g:FS)(ds:List D)(t:Tn):Option Tn:=match g (bt_2 n ds t) with
 | .nx Δ=>(match Δ[ds.length]? with
  |some (.lt t')=>some t'
  |_=>none)
 |_=>none
def spM(K:Frag)(n:Nat)(F:List D->Tn->Option Tn):Sp:=λvs H Q _=>∃vs0 a0,vs=vs0 ++ [.ref a0]/\vs0.length=n/\∃G ds t S t',Same G H/\HasL K G vs0 ds/\Ow K G H (.ref a0) t S/\(∀a,S a->G a=none/\H a≠none)/\F ds t=some t'/\
 ∀G' H' S',MStep2 S G H G' H'->(∀a,S' a->(S a\/H a=none)/\G' a=none/\H' a≠none)->Ow K G' H' (.ref a0) t' S'->Q .non H'
def cx_5{G H h0:Hp}{vs us:List V}{ds:List D}{N:List Str}{b:Nat->Addr}(g:Same G H)(i0:Same h0 H)(r:HasL K G vs ds)(hl:(vs ++ us).length<=N.length):Ev K ⟨h0,b⟩ G G H (Gd N (vs ++ us)) (Az N.length ds) (λ_ _=>False):=by
 have key:∀(i:Nat) (s:Sl),(Az N.length ds)[i]? =some s->(∃d,s=.sh d/\ds[i]? =some d)\/s=.no:=λi s e=>by
  unfold Az at e
  by_cases hi:i < ds.length
  ·rw [List.getElem?_append_left (by rw [List.length_map];exact hi),List.getElem?_map] at e;obtain⟨d,e1,e2⟩:=Option.map_eq_some_iff.mp e;exact .inl ⟨d,e2.symm,e1⟩
  ·rw [List.getElem?_append_right (by rw [List.length_map];omega),List.getElem?_replicate] at e
   split at e
   ·cases e;exact .inr rfl
   ·cases e
 refine⟨⟨i0,g,Same.refl _,λ_ n _=>n⟩, ?_,λi d e=> ?_,λi z d e zo=> ?_,λ_ _ ha=>ha.elim,λ_ _ _ ha=>ha.elim,λi d e=> ?_,λi d e=> ?_⟩
 ·unfold Gd Az;have:=r.length;simp only [List.length_append,List.length_map,List.length_replicate] at hl⊢;omega
 ·rcases key i _ e with⟨d',q,q2⟩|q
  ·cases q;obtain⟨v,e1,h⟩:=r.get q2;refine⟨v, ?_,h⟩;unfold Gd;have hi:i < vs.length:=(List.getElem?_eq_some_iff.mp e1).1;rw [List.getElem?_append_left (by rw [List.length_map,List.length_append];omega),List.getElem?_map,List.getElem?_append_left hi,e1];rfl
  ·cases q
 ·rcases key i _ e with⟨d',q,_⟩|q <;> (subst q;cases zo)
 ·rcases key i _ e with⟨d',q,_⟩|q <;> cases q
 ·rcases key i _ e with⟨d',q,_⟩|q <;> cases q
open Classical in
def fn_M{c:Bool}{w:World}{x qual:Str}{st:Stmt}{f:Addr}{N ps:List Str}{k n:Nat}{g:FS}(F:Fun K x qual st f fd)(S:FnScope N ps (Ck st))(hn:ps.length=n + 1)(hle:ps.length<=N.length)
  (zk:∀(zq:Value) (A:Around) (outer:List Env) (s:Shared) (H:Hp) (E:XK),RoomC c k (A.deeper (envOfC qual (Ck st) s.heap.objs.size f zq))->
   BD (cxN c P w K mg base N qual (Ck st) f zq A outer s H E) (λ_=>EXof K E) (Fc st) g):FnX P w K mg base c (k + 1) f fd ps (spM K n (cc_3 N.length g)):=by
 refine Fun.okX F S (λvs H Q E h=> ?_) λzq A outer s H vs Q E hr h=>⟨_,zk zq A outer s H E hr, ?_⟩
 ·obtain⟨vs0,a0,rfl,hl,_⟩:=h;rw [List.length_append,hl,hn];rfl
 obtain⟨vs0,a0,rfl,hl,G,ds,t,S0,t',g0,r,tw,out,ef,q⟩:=h;have i0:Same (λb=>if S0 b then none else H b) H:=λb o e=>by
  simp only at e
  split at e
  ·cases e
  ·exact e
 have E0:=cx_5 (N:=N) (b:=λ_=>a0) (us:=[.ref a0]) g0 i0 r (by rw [List.length_append,hl];show n + 1<=_;omega);have zm:ds.length=n:=by rw [<-r.length];exact hl
 have hs:(Gd N (vs0 ++ [.ref a0]))[ds.length]? =some (some (.ref a0)):=by
  unfold Gd;rw [List.getElem?_append_left (by rw [List.length_map,List.length_append,hl,zm];exact Nat.lt_succ_self _),List.getElem?_map,List.getElem?_append_right (by rw [hl,zm];exact Nat.le_refl _),hl,zm,Nat.sub_self];rfl
 have E1:=E0.putO (i:=ds.length) (z:=.lt t) (S:=S0) (λa ha=>⟨by simp only;rw [if_pos ha],(out a ha).1,(out a ha).2⟩) rfl (λ_ z=>by cases z) tw (λj a ha=>ha.elim) (λ_ _=>rfl);rw [ab_8 hs] at E1;refine⟨⟨λb=>if S0 b then none else H b,λ_=>a0⟩,G,G,_,_,E1, ?_⟩;unfold cc_3 at ef;have e2:(Az N.length ds).set ds.length (.lt t)=bt_2 N.length ds t:=rfl;rw [e2];cases e:g (bt_2 N.length ds t) with
 |nx Δ=>
  rw [e] at ef;simp only at ef
  split at ef
  ·rename_i t2 e3;cases ef;intro σ G' H' O E' _;obtain⟨v,s1,t3⟩:=E'.ow _ _ _ e3 rfl;have s2:=E'.lt _ _ e3;rw [s1] at s2;cases s2;refine q G' H' (O ds.length) ⟨λb o nb z=>E'.st.hh b o (by simp only;rw [if_neg nb];exact z),E'.st.gh,E'.st.gg,λb nb z1 z2=>E'.st.nw b z1 (by simp only;rw [if_neg nb];exact z2)⟩ (λa ha=> ?_) t3;obtain⟨k1,k2,k3⟩:=E'.out _ a ha;refine⟨?_,k1,k3⟩;simp only at k2
   split at k2
   ·rename_i z;exact .inl z
   ·exact .inr k2
  ·cases ef
 |rt w=>rw [e] at ef;cases ef
 |ex x Δ=>rw [e] at ef;cases ef
 |bk Δ=>rw [e] at ef;cases ef
 |ct Δ=>rw [e] at ef;cases ef
 |no=>rw [e] at ef;cases ef
def FnMd(P:Program)(w:World)(K:Frag)(mg:Str->Option Value)(base:Heap)(c:Bool)(x:Str)(k n:Nat)(ps:List Str)(F:List D->Tn->Option Tn):Prop:=
 ∃f fd,FnX P w K mg base c k f fd ps (spM K n F)/\mg x=some (.ref f)/\keepIn K (.ref f)=true/\Binds K fd ps []
def ec_4{c:Bool}{w:World}{x:Str}{st:Stmt}{f:Addr}{ps:List Str}{k n:Nat}{Fn:List D->Tn->Option Tn}(F:Fun K x x st f fd)(hm:mg x=some (.ref f))(hb:Binds K fd ps [])
  (ok:FnX P w K mg base c k f fd ps (spM K n Fn)):FnMd P w K mg base c x k n ps Fn:=⟨f,fd,ok,hm,F.kp,hb⟩
section
variable{X:Cx}{EX:Bo}{e:Expr}{es:List Expr}{x:Str}{pp pos:Pos}{c:Bool}{k k':Nat}{ps:List Str}
def dg_2{sp:Sp}{ta:TA}{f:Addr}(hr:RoomC c k' X.A)(lk:Lk X EX)(ok:FnX X.prog X.w X.K X.mg X.base c k f fd ps sp)(hm:X.mg x=some (.ref f))(kp:keepIn X.K (.ref f)=true)(hb:Binds X.K fd ps [])(ha:PA X (e::es) ta)(hk:k<=k')(hg:Gl X x)(hdb:(x ==("__debug__" :Str))=false)
  (he:starEach (e::es) X.env=(false,eval e X.env)::starEach es X.env) (hpl:(backTo pos (starEach es X.env)).any (·.1)=false):
  PE X (.Call (.Name x pp) (e::es) [] pos) (λ σ H Q=>ta σ H λvs H1=>sp vs H1 Q (EXE X.K (EX σ))):=by
 intro zd s σ H Q I q;refine wpAny_Call_Name_kw (w_9 I hg hm ?_ hdb);refine callWith_K (h₀:=X.base) I.ok.mod.kin kp (Bi (ha pos zd s σ H _ I q) λus s1 ⟨vs,H1,I1,r,q⟩=>⟨I1.kIn, ?_⟩) he hpl;exact aq_8 ok (hr.mono hk) hb lk I1 r q
def be_7(i:Nat)(F:List D->Tn->Option Tn)(f1 f2:FE):FS:=λ Δ=>match(Δ[i]?).bind Sl.tree with
 |some (.dic zn,lk)=>(match f1 (Bb Δ) with
  | .ok w1=>(match f2 (Bb Δ) with
   | .ok w2=>(match F [w1.d,w2.d] (.dic zn) with
    |some t'=> .nx (Δ.set i (Sl.mk lk t'))
    |none=> .no)
   |_=> .no)
  |_=> .no)
 |_=> .no
def dg_3{i:Nat}{y:Str}{e1 e2:Expr}{f1 f2:FE}{F:List D->Tn->Option Tn}{p3:Pos}(hr:RoomC c k' X.A)(lk:Lk X EX)(h:FnMd X.prog X.w X.K X.mg X.base c x k 2 ps F)(h1:ED X EX e1 f1)(h2:ED X EX e2 f2)(hk:k<=k':=by decide)
  (hN:X.N[i]? =some y:=by rfl) (hv:Vis X.env.scope y:=by first|exact Or.inl rfl|exact Or.inr (Or.inl rfl)|exact Or.inr (Or.inr rfl)) (hd:(y ==("__debug__" :Str))=false:=by decide) (hcd:(y ==("__classdict__" :Str))=false:=by decide)
  (hg:Gl X x:=by rfl) (hdb:(x ==("__debug__" :Str))=false:=by decide) (hs1:starEach [e1,e2,.Name y p3] X.env=(false,eval e1 X.env)::starEach [e2,.Name y p3] X.env:=by rfl) (hs2:starEach [e2,.Name y p3] X.env=(false,eval e2 X.env)::starEach [.Name y p3] X.env:=by rfl) (hs3:starEach [.Name y p3] X.env=(false,eval (.Name y p3) X.env)::starEach [] X.env:=by rfl)
  (hpl:(backTo pos (starEach [e2,.Name y p3] X.env)).any (·.1)=false:=by rfl) (hsw:swapsWith (.Call (.Name x pp) [e1,e2,.Name y p3] [] pos) none pos.line X.env=pure false:=by rfl) {bg:Pos} (cu:swapsWith (.Call (.Name x pp) [e1,e2,.Name y p3] [] pos) none bg.line X.env=pure false:=by rfl):
  SD X EX (.Expr (.Call (.Name x pp) [e1,e2,.Name y p3] [] pos) bg) (be_7 i F f1 f2):=by
 obtain⟨f,fd,ok,hm,kp,hb⟩:=h;refine PS.imp (ad_5 (dg_2 hr lk ok hm kp hb (k_0 h1 (k_0 h2 (k_0 (Fe hN hv hd hcd) w_4 hs3) hs2) hs1) hk hg hdb hs1 hpl) cu) λD σ H ⟨H0,G0,G,Δ,O,E,q⟩=> ?_;unfold be_7 at q
 split at q
 ·rename_i zn lk e0;obtain⟨s,e1,etr⟩:=Option.bind_eq_some_iff.mp e0;refine⟨G,Bb Δ,E.st.gh,E.gsh, ?_⟩;cases q1:f1 (Bb Δ) with
  |ex x=>simp only [q1] at q;exact q.elim
  |no=>simp only [q1] at q;exact q.elim
  |ok w1=>
   simp only [q1] at q;refine WP.intro λv1 G1 H1 st1 r1=> ?_;have E1:=E.grow st1;refine⟨G1,Bb Δ,E1.st.gh,E1.gsh, ?_⟩;cases q2:f2 (Bb Δ) with
   |ex x=>simp only [q2] at q;exact q.elim
   |no=>simp only [q2] at q;exact q.elim
   |ok w2=>
    simp only [q2] at q;refine WP.intro λv2 G2 H2 st2 r2=> ?_;have E2:=E1.grow st2;obtain⟨v0,s1,t0⟩:=E2.ow i _ _ e1 (Sl.tree_own etr);refine⟨v0,s1, ?_⟩
    split at q
    ·rename_i t' ef;obtain⟨a0,_,_,rfl,_⟩:=t0.dic_of;refine⟨[v1,v2],a0,rfl,rfl,G2,[w1.d,w2.d],.dic zn,O i,t',E2.st.gh,.cons (r1.mono st2.gg) (.cons r2 .nil),t0,λa ha=>⟨(E2.out i a ha).1,(E2.out i a ha).2.2⟩,ef,λG' H' S' ms fr t1=> ?_⟩;exact q σ G' H' _ (E2.step2 (Sl.mk_own lk t') (Sl.mk_lk lk t') (E2.mk_lt e1 etr t') ms s1 fr t1) ((st1.gg.trans st2.gg).trans ms.gg)
    ·exact q.elim
 ·exact q.elim
def dg_4(i j:Nat):FS:=λ Δ=>if i=j then .no else match(Δ[i]?).bind Sl.tree,(Δ[j]?).bind Sl.tree with
 |some (t1,false),some (t2,false)=> .rt (.tr (.tup [t1,t2]))
 |_,_=> .no
def dr_4{i j x1:Nat}{x y:Str}{p1 p2 p3:Pos}(hN:X.N[i]? =some x:=by rfl)(hv:Vis X.env.scope x:=by first|exact Or.inl rfl|exact Or.inr (Or.inl rfl)|exact Or.inr (Or.inr rfl))(hd:(x ==("__debug__" :Str))=false:=by decide)
  (hcd:(x ==("__classdict__" :Str))=false:=by decide) (hN2:X.N[j]? =some y:=by rfl) (hv2:Vis X.env.scope y:=by first|exact Or.inl rfl|exact Or.inr (Or.inl rfl)|exact Or.inr (Or.inr rfl)) (hd2:(y ==("__debug__" :Str))=false:=by decide)
  (dn:(y ==("__classdict__" :Str))=false:=by decide) (hs1:starEach [.Name x p1,.Name y p2] X.env=(false,eval (.Name x p1) X.env)::starEach [.Name y p2] X.env:=by rfl) (hs2:starEach [.Name y p2] X.env=(false,eval (.Name y p2) X.env)::starEach [] X.env:=by rfl):
  SD X EX (.Return (some (.Tuple [.Name x p1,.Name y p2] x1 p3)) pos) (dg_4 i j):=
 PS.imp (ci_8 (db_8 (k_0 (Fe hN hv hd hcd) (k_0 (Fe hN2 hv2 hd2 dn) w_4 hs2) hs1))) λD σ H ⟨H0,G0,G,Δ,O,E,q⟩=>by
  unfold dg_4 at q
  split at q
  ·exact q.elim
  ·rename_i hij
   split at q
   ·rename_i t1 t2 e1 e2;obtain⟨z1,a1,b1⟩:=Option.bind_eq_some_iff.mp e1;obtain⟨z2,a2,b2⟩:=Option.bind_eq_some_iff.mp e2;obtain⟨v1,s1,w1⟩:=E.ow i _ _ a1 (Sl.tree_own b1);obtain⟨v2,s2,w2⟩:=E.ow j _ _ a2 (Sl.tree_own b2);refine⟨v1,s1,v2,s2,by rw [sizeLine_eq];show 2<=_;decide,λp hp=> ?_⟩;have np:∀k b,O k b->b≠p:=λk b hb z=>(E.out k b hb).2.2 (by rw [z];exact hp);have grow:∀k b o,O k b->H b=some o->upd H p (.tup [v1,v2]) b=some o:=λk b o hb z=>by rw [Bm (np k b hb)];exact z
    refine q (.ref p) (λb=>b=p\/O i b\/O j b) G _ (E.st.trans (Step.own E.st.gh hp _)) (λa ha=> ?_) ?_
    ·rcases ha with ha|ha|ha
     ·subst ha;exact⟨E.st.hh.free hp,E.st.gh.free hp,by rw [Cs];simp⟩
     ·obtain⟨k1,k2,k3⟩:=E.out i a ha;exact⟨k2,k1,by rw [Bm (np i a ha)];exact k3⟩
     ·obtain⟨k1,k2,k3⟩:=E.out j a ha;exact⟨k2,k1,by rw [Bm (np j a ha)];exact k3⟩
    ·refine Ow.tup (S1:=λb=>O i b\/O j b) Cs (.inl rfl) (λb hb=>⟨.inr hb, ?_⟩) (.cons (S1:=O i) (S2:=O j) (w1.mono (Same.refl _) (grow i) λ_ z=>z) (.cons (S1:=O j) (S2:=λ_=>False) (w2.mono (Same.refl _) (grow j) λ_ z=>z) .nil (λ_ _ z=>z) (λ_ z=>z) λ_ z=>z.elim) (λb z1 z2=>hij (E.dj i j b z1 z2)) (λ_ z=> .inl z) λ_ z=> .inr z);rcases hb with hb|hb
     ·exact np i b hb
     ·exact np j b hb
   ·exact q.elim
end
def OFld(K:Frag)(cs:List Str)(f:Str):Prop:=∀c,cs.contains c=true->∀C,ClsAt K c C->Cls K C/\NoAttr K C f
def OFld.nil{f:Str}:OFld K [] f:=λc h=>by cases h
def ClsAt.same{c:Str}{C C':Addr}(a:ClsAt K c C)(b:ClsAt K c C'):C'=C:=by
 unfold ClsAt at a b;rw [a] at b;injection b with b
 injection b with b
 injection b with b
 exact b.symm
def OFld.one{c:Str}{C:Addr}{cs:List Str}{f:Str}(a:ClsAt K c C)(k:Cls K C)(n:NoAttr K C f)(r:OFld K cs f):OFld K (c::cs) f:=λc' h C' a'=>by
 rw [List.contains_cons,Bool.or_eq_true] at h;rcases h with h|h
 ·have e:=beq_iff_eq.mp h;subst e;rw [a.same a'];exact⟨k,n⟩
 ·exact r c' h C' a'
def Br(cs:List Str)(f:Str)(fo:FE):FE:=λ δ=>(fo δ).bind λw=>match w.d with
 | .obj c ns vs=>if cs.contains c then(match(ns.zip vs).lookup f with
  |some d=> .ok (.sh d)
  |none=> .no) else .no
 |_=> .no
theorem bb_3{G:Hp}{f:Str}:∀{ns:List Str} {us:List V} {vs:List D},HasL K G us vs->ns.length=us.length->(∀d,(ns.zip vs).lookup f=some d->∃v,(ns.zip us).lookup f=some v/\Has K G v d)/\(ns.contains f=false->(ns.zip us).lookup f=none)
 | [],_,_,_,_=>⟨λd e=>(by cases e),λ_=>rfl⟩
 |n::ns,[],_,_,e=>by simp at e
 |n::ns,u::us,_,.cons h r,e=>by
  obtain⟨i1,i2⟩:=bb_3 (f:=f) (ns:=ns) r (by simpa using e);refine⟨λd q=> ?_,λq=> ?_⟩
  ·rw [List.zip_cons_cons,List.lookup_cons] at q⊢;cases hb:f ==n with
   |true=>simp only [hb] at q⊢;cases q;exact⟨u,rfl,h⟩
   |false=>simp only [hb] at q⊢;exact i1 d q
  ·rw [List.contains_cons,Bool.or_eq_false_iff] at q;rw [List.zip_cons_cons,List.lookup_cons];simp only [q.1];exact i2 q.2
section
variable{X:Cx}{EX:Bo}{e:Expr}{pos:Pos}
def Db{cs:List Str}{f:Str}{fo:FE}(k:OFld X.K cs f)(he:ED X EX e fo)(hb:attributeBase e f X.env (eval e X.env)=eval e X.env:=by rfl):ED X EX (.Attribute e f pos) (Br cs f fo):=
 PE.imp (dz_6 he hb) λ σ H Q ⟨G,δ,g0,s0,o⟩=>tD.seq g0 s0 o λw v G1 H1 _ st r o'=>by
  revert o' r;cases w.d with
  |obj c ns vs=>
   intro r o';simp only at o'
   split at o'
   ·rename_i hc
    split at o'
    ·rename_i d ed;cases r with
     |obj hC hh hl rl=>
      obtain⟨v1,e1,h1⟩:=(bb_3 (f:=f) rl hl).1 d ed;obtain⟨kc,kn⟩:=k c hc _ hC;exact⟨_,_,_,_,v1,rfl,st.gh _ _ hh,kc,kn,e1,Dc o' st.gh h1⟩
    ·exact o'.elim
   ·exact o'.elim
  |_=>intro _ o';exact False.elim o'
end
structure MethD(P:Program)(w:World)(K:Frag)(mg:Str->Option Value)(base:Heap)(cc:Bool)(k n:Nat)(m c:Str)(F:List D->R W):Prop where
 ex:∃C f fd ps,ClsAt K c C/\Cls K C/\Meth K C m f/\FnX P w K mg base cc k f fd ps (Bh K (n + 1) F)/\Binds K fd ps []
def MethT(P:Program)(w:World)(K:Frag)(mg:Str->Option Value)(base:Heap)(cc:Bool)(k n:Nat)(m:Str)(tb:List (Str×(List D->R W))):Prop:=∀c F,tb.lookup c=some F->MethD P w K mg base cc k n m c F
def MethT.nil{w:World}{cc:Bool}{k n:Nat}{m:Str}:MethT P w K mg base cc k n m []:=λc F e=>by cases e
def FnX.up{w:World}{c:Bool}{j k:Nat}{f:Addr}{ps:List Str}{sp:Sp}(F:FnX P w K mg base c j f fd ps sp)(h:j<=k):FnX P w K mg base c k f fd ps sp:=
 ⟨F.len,λA outer s H args us vs Q E hr=>F.run A outer s H args us vs Q E (hr.mono h)⟩
def MethT.one{w:World}{cc:Bool}{j k n:Nat}{m c:Str}{F:List D->R W}{tb:List (Str×(List D->R W))}(d:MethD P w K mg base cc j n m c F)(hj:j<=k)(r:MethT P w K mg base cc k n m tb):MethT P w K mg base cc k n m ((c,F)::tb):=λc' F' e=>by
 rw [List.lookup_cons] at e;cases hb:c' ==c with
 |true=>
  simp only [hb] at e;cases e;have:=beq_iff_eq.mp hb;subst this;obtain⟨C,f,fd,ps,a1,a2,a3,a4,a5⟩:=d.ex;exact⟨C,f,fd,ps,a1,a2,a3,a4.up hj,a5⟩
 |false=>simp only [hb] at e;exact r c' F' e
def Bf(m:Str)(n:Nat)(tb:List (Str×(List D->R W)))(fo:FE)(fa:FA):FE:=λ δ=>(fo δ).bind λw=>match w.d with
 | .obj c ns vs=>if ns.contains m then .no else match tb.lookup c with
  |some F=>(fa δ).bind λds=>if ds.length=n then F (.obj c ns vs::ds) else .no
  |none=> .no
 |_=> .no
section
variable{X:Cx}{EX:Bo}{e o:Expr}{es:List Expr}{pos zh:Pos}{cc:Bool}{k k' n:Nat}{m:Str}{tb:List (Str×(List D->R W))}{fo:FE}{fa:FA}
def dg_5(X:Cx)(EX:Bo)(cc:Bool)(k:Nat)(m:Str)(ta:TE)(t:TA):TE:=λ σ H Q=>ta σ H λx H1=>∃a C dx fs f fd ps sp,x=.ref a/\H1 a=some (.ins C dx fs)/\fs.lookup m=none/\Cls X.K C/\Meth X.K C m f/\
 FnX X.prog X.w X.K X.mg X.base cc k f fd ps sp/\Binds X.K fd ps []/\t σ H1 λvs H2=>sp (.ref a::vs) H2 Q (EXE X.K (EX σ))
def dr_5{pl:Sem Bool}{ta:TE}{t:TA}(he:PE X o ta)(hr:RoomC cc k X.A)(lk:Lk X EX)(ha:PA X (e::es) t)
  (hst:starEach (e::es) X.env=(false,eval e X.env)::starEach es X.env) (hpl:(backTo pos (starEach es X.env)).any (·.1)=false)
  (ht:eval (.Call (.Attribute o m zh) (e::es) [] pos) X.env=(do
   let ov<-eval o X.env
   standAt zh.atName
   let(f,first)<-holding [ov] (getMethod ov m pl)
   callWith pos f first (backTo pos (starEach (e::es) X.env)) (backToKw pos (keywordEach [] X.env)))):
  PE X (.Call (.Attribute o m zh) (e::es) [] pos) (dg_5 X EX cc k m ta t):=by
 intro zd s σ H Q I h;refine methodCall_KW (pl:=pl) (Bi (he zd s σ H _ I h) λu s1 ⟨x,H1,I1,rx,a,C,dx,fs,f,fd,ps,sp,ex,ea,l,c,hm,F,hb,q⟩=> ?_) ht;subst ex;obtain rfl:u=Value.ref a:=rx;refine bc_9 I1 ea c hm l ?_;refine callWith_K (first:=[.ref a]) (h₀:=X.base) I.ok.mod.kin hm.kp (Bi (ha pos zd s1 σ H1 _ I1 q) λus s2 ⟨vs,H2,I2,r,q2⟩=>⟨I2.kIn, ?_⟩) hst hpl;exact aq_8 (us:=.ref a::us) (vs:=.ref a::vs) F hr hb lk I2 (.cons rfl r) q2
def dg_6{pl:Sem Bool}{ta:TE}(he:PE X o ta)(hr:RoomC cc k X.A)(lk:Lk X EX)
  (ht:eval (.Call (.Attribute o m zh) [] [] pos) X.env=(do
   let ov<-eval o X.env
   standAt zh.atName
   let(f,first)<-holding [ov] (getMethod ov m pl)
   callWith pos f first (backTo pos (starEach [] X.env)) (backToKw pos (keywordEach [] X.env)))):
  PE X (.Call (.Attribute o m zh) [] [] pos) (dg_5 X EX cc k m ta tNil):=by
 intro zd s σ H Q I h;refine methodCall_KW (pl:=pl) (Bi (he zd s σ H _ I h) λu s1 ⟨x,H1,I1,rx,a,C,dx,fs,f,fd,ps,sp,ex,ea,l,c,hm,F,hb,q⟩=> ?_) ht;subst ex;obtain rfl:u=Value.ref a:=rx;refine bc_9 I1 ea c hm l ?_;exact callWith_K0 (first:=[.ref a]) I1.kIn hm.kp (aq_8 (us:=[.ref a]) (vs:=[.ref a]) F hr hb lk I1 (.cons rfl .nil) q)
def ec_5{σ:Sg}{Q:VK}(hK:X.K=K)(T:MethT X.prog X.w X.K X.mg X.base cc k n m tb)(q:tD K EX (Bf m n tb fo fa) σ H Q):dg_5 X EX cc k m (tD K EX fo) (tDa K EX fa) σ H Q:=by
 subst hK;obtain⟨G,δ,g0,s0,o⟩:=q;refine tD.seq g0 s0 o λw v G1 H1 _ st r o'=> ?_;revert o' r;cases w.d with
 |obj c ns vs=>
  intro r o';simp only at o'
  split at o'
  ·exact o'.elim
  ·rename_i hn
   split at o'
   ·rename_i F ef;cases r with
    |obj hC hh hl rl=>
     rename_i a0 C0 dx0 us0;obtain⟨C,f,fd,ps,a1,a2,a3,a4,a5⟩:=(T c F ef).ex;have:=a1.same hC;subst this;refine⟨_,_,_,_,f,fd,ps,_,rfl,st.gh _ _ hh,(bb_3 (f:=m) rl hl).2 (by simpa using hn),a2,a3,a4,a5, ?_⟩;refine tDa.seq st.gh (s0.mono st.gg) o' λds us G' H' _ st' r' o2=> ?_
     split at o2
     ·rename_i zm;refine⟨by rw [List.length_cons,r'.length,zm],G',.obj c ns vs::ds,st'.gh,.cons (Has.mono st'.gg (.obj hC hh hl rl)) r', ?_⟩;cases q:F (.obj c ns vs::ds) with
      |ok w=>rw [q] at o2;exact o2
      |ex x=>rw [q] at o2;exact EXof.in o2
      |no=>rw [q] at o2;exact o2.elim
     ·exact o2.elim
   ·exact o'.elim
 |_=>intro _ o';exact False.elim o'
def k_2{pl:Sem Bool}(T:MethT X.prog X.w X.K X.mg X.base cc k n m tb)(hr:RoomC cc k' X.A)(lk:Lk X EX)(he:ED X EX o fo)(ha:AD X EX (e::es) fa)(hk:k<=k':=by decide)
  (hst:starEach (e::es) X.env=(false,eval e X.env)::starEach es X.env:=by rfl) (hpl:(backTo pos (starEach es X.env)).any (·.1)=false:=by rfl)
  (ht:eval (.Call (.Attribute o m zh) (e::es) [] pos) X.env=(do
   let ov<-eval o X.env
   standAt zh.atName
   let(f,first)<-holding [ov] (getMethod ov m pl)
   callWith pos f first (backTo pos (starEach (e::es) X.env)) (backToKw pos (keywordEach [] X.env))):=by rfl):ED X EX (.Call (.Attribute o m zh) (e::es) [] pos) (Bf m n tb fo fa):=
 PE.imp (dr_5 he (hr.mono hk) lk ha hst hpl ht) λ_ _ _ q=>ec_5 rfl T q
def h_8{pl:Sem Bool}(T:MethT X.prog X.w X.K X.mg X.base cc k 0 m tb)(hr:RoomC cc k' X.A)(lk:Lk X EX)(he:ED X EX o fo)(hk:k<=k':=by decide)
  (ht:eval (.Call (.Attribute o m zh) [] [] pos) X.env=(do
   let ov<-eval o X.env
   standAt zh.atName
   let(f,first)<-holding [ov] (getMethod ov m pl)
   callWith pos f first (backTo pos (starEach [] X.env)) (backToKw pos (keywordEach [] X.env))):=by rfl):ED X EX (.Call (.Attribute o m zh) [] [] pos) (Bf m 0 tb fo Ac):=
 PE.imp (dg_6 he (hr.mono hk) lk ht) λ σ H Q ⟨G,δ,g0,s0,q⟩=>tD.seq g0 s0 q λw v G1 H1 _ st r o'=>by
  revert o' r;cases w.d with
  |obj c ns vs=>
   intro r o';simp only at o'
   split at o'
   ·exact o'.elim
   ·rename_i hn
    split at o'
    ·rename_i F ef;cases r with
     |obj hC hh hl rl=>
      obtain⟨C,f,fd,ps,a1,a2,a3,a4,a5⟩:=(T c F ef).ex;have:=a1.same hC;subst this;refine⟨_,_,_,_,f,fd,ps,_,rfl,st.gh _ _ hh,(bb_3 (f:=m) rl hl).2 (by simpa using hn),a2,a3,a4,a5, ?_⟩;have o2:Out X.K (EX σ) G1 H1 (F [.obj c ns vs]) Q:=o';refine⟨rfl,G1,[.obj c ns vs],st.gh,.cons (.obj hC hh hl rl) .nil, ?_⟩;cases q:F [.obj c ns vs] with
      |ok w=>rw [q] at o2;exact o2
      |ex x=>rw [q] at o2;exact EXof.in o2
      |no=>rw [q] at o2;exact o2.elim
    ·exact o'.elim
  |_=>intro _ o';exact False.elim o'
end
def unT:List Tn->Option (List D)
 | []=>some []
 | .sh d::r=>(unT r).map (d:: ·)
 |_=>none
theorem cc_4:∀{ts:List Tn} {ds:List D},unT ts=some ds->ts=ds.map .sh
 | [],_,e=>by cases e;rfl
 |t::r,ds,e=>by
  cases t with
  |sh d=>
   simp only [unT] at e;cases q:unT r with
   |none=>rw [q] at e;cases e
   |some l=>
    rw [q] at e;cases e;rw [cc_4 q];rfl
  |_=>cases e
def n_7(n:Nat)(c:Str)(ds:List D):SE:=.lt (.obj c [] [])::(ds.map Sl.sh ++ List.replicate (n - (ds.length + 1)) .no)
def Fw(n:Nat)(c:Str)(g:FS)(ds:List D):R (List Str×List D):=match g (n_7 n c ds) with
 | .nx Δ=>(match Δ[(0:Nat)]? with
  |some (.lt (.obj c' ns ts))=>if c'=c then(match unT ts with
   |some rs=> .ok (ns,rs)
   |none=> .no) else .no
  |_=> .no)
 | .ex x _=> .ex x
 |_=> .no
def spI(K:Frag)(C:Addr)(n:Nat)(F:List D->R (List Str×List D)):Sp:=λvs H Q E=>∃x dx vs0 Hq G ds,vs=.ref x::vs0/\vs0.length=n/\Hq x=none/\Same Hq H/\H x=some (.ins C dx [])/\Same G Hq/\HasL K G vs0 ds/\
 (match F ds with
 | .ok p=>∀G' H' us dx',Step G Hq G' H'->G' x=none->H' x=some (.ins C dx' (p.1.zip us))->p.1.length=us.length->HasL K G' us p.2->Q .non H'
 | .ex e=>(EXof K E).p e G Hq
 | .no=>False)
def cx_6{G H h0:Hp}{v0:V}{ds:List D}{N:List Str}{b:Nat->Addr}(g:Same G H)(i0:Same h0 H)(r:HasL K G vs ds)(hl:vs.length + 1<=N.length):Ev K ⟨h0,b⟩ G G H (Gd N (v0::vs)) (.no::(ds.map Sl.sh ++ List.replicate (N.length - (ds.length + 1)) .no)) (λ_ _=>False):=by
 have key:∀(i:Nat) (s:Sl),(Sl.no::(ds.map Sl.sh ++ List.replicate (N.length - (ds.length + 1)) .no))[i]? =some s->(∃j d,i=j + 1/\s=.sh d/\ds[j]? =some d)\/s=.no:=λi s e=>by
  cases i with
  |zero=>exact .inr (by simpa using e.symm)
  |succ i=>
   rw [List.getElem?_cons_succ] at e
   by_cases hi:i < ds.length
   ·rw [List.getElem?_append_left (by rw [List.length_map];exact hi),List.getElem?_map] at e;obtain⟨d,e1,e2⟩:=Option.map_eq_some_iff.mp e;exact .inl ⟨i,d,rfl,e2.symm,e1⟩
   ·rw [List.getElem?_append_right (by rw [List.length_map];omega),List.getElem?_replicate] at e
    split at e
    ·cases e;exact .inr rfl
    ·cases e
 refine⟨⟨i0,g,Same.refl _,λ_ n _=>n⟩, ?_,λi d e=> ?_,λi z d e zo=> ?_,λ_ _ ha=>ha.elim,λ_ _ _ ha=>ha.elim,λi d e=> ?_,λi d e=> ?_⟩
 ·unfold Gd;have:=r.length;simp only [List.length_append,List.length_map,List.length_replicate,List.length_cons] at hl⊢;omega
 ·rcases key i _ e with⟨j,d',rfl,q,q2⟩|q
  ·cases q;obtain⟨v,e1,h⟩:=r.get q2;refine⟨v, ?_,h⟩;unfold Gd;have hi:j < vs.length:=(List.getElem?_eq_some_iff.mp e1).1;rw [List.getElem?_append_left (by rw [List.length_map,List.length_cons];omega),List.getElem?_map,List.getElem?_cons_succ,e1];rfl
  ·cases q
 ·rcases key i _ e with⟨j,d',_,q,_⟩|q <;> (subst q;cases zo)
 ·rcases key i _ e with⟨j,d',_,q,_⟩|q <;> cases q
 ·rcases key i _ e with⟨j,d',_,q,_⟩|q <;> cases q
def fn_I{c:Bool}{w:World}{x qual cn:Str}{st:Stmt}{f C:Addr}{N ps:List Str}{k n:Nat}{g:FS}(F:Fun K x qual st f fd)(S:FnScope N ps (Ck st))(hC:ClsAt K cn C)(hn:ps.length=n + 1)(hle:ps.length<=N.length)
  (zk:∀(zq:Value) (A:Around) (outer:List Env) (s:Shared) (H:Hp) (E:XK),RoomC c k (A.deeper (envOfC qual (Ck st) s.heap.objs.size f zq))->
   BD (cxN c P w K mg base N qual (Ck st) f zq A outer s H E) (λ_=>EXof K E) (Fc st) g):FnX P w K mg base c (k + 1) f fd ps (spI K C n (Fw N.length cn g)):=by
 refine Fun.okX F S (λvs H Q E h=> ?_) λzq A outer s H vs Q E hr h=>⟨_,zk zq A outer s H E hr, ?_⟩
 ·obtain⟨x,dx,vs0,Hq,G,ds,rfl,hl,_⟩:=h;rw [List.length_cons,hl,hn]
 obtain⟨x,dx,vs0,Hq,G,ds,rfl,hl,n1,i0,hx,g0,r,q⟩:=h;have E0:=cx_6 (N:=N) (b:=λ_=>x) (v0:=.ref x) (g0.trans i0) i0 r (by rw [hl];omega);have hs:(Gd N (.ref x::vs0))[0]? =some (some (.ref x)):=rfl;have E1:=E0.putO (i:=0) (z:=.lt (.obj cn [] [])) (v:=.ref x) (S:=λb=>b=x) (λa ha=>by subst ha;exact⟨n1,g0.free n1,by rw [hx];simp⟩) rfl (λ_ z=>by cases z) (.obj (S1:=λ_=>False) hC (us:=[]) hx rfl rfl (λ_ z=>z.elim) .nil) (λj a ha=>ha.elim) (λ_ _=>rfl);rw [ab_8 hs] at E1;refine⟨⟨Hq,λ_=>x⟩,G,G,_,_,E1, ?_⟩;unfold Fw at q;have e2:(Sl.no::(ds.map Sl.sh ++ List.replicate (N.length - (ds.length + 1)) .no)).set 0 (.lt (.obj cn [] []))=n_7 N.length cn ds:=rfl;rw [e2];cases e:g (n_7 N.length cn ds) with
 |nx Δ=>
  rw [e] at q;intro σ G' H' O E' _;simp only at q
  split at q
  ·rename_i p ep
   split at ep
   ·rename_i c2 ns ts e3
    split at ep
    ·rename_i hcc;subst hcc
     split at ep
     ·rename_i rs eu;cases ep;obtain⟨v,s1,t3⟩:=E'.ow _ _ _ e3 rfl;have s2:=E'.lt _ _ e3;rw [s1] at s2;cases s2;cases t3 with
      |obj hc h hl' ha sub rl=>
       rw [cc_4 eu] at rl;have:=hC.same hc;subst this;exact q G' H' _ _ E'.st (E'.out _ _ ha).1 h hl' rl.off
     ·cases ep
    ·cases ep
   ·cases ep
  ·rename_i x2 ep
   split at ep
   ·split at ep
    ·split at ep <;> cases ep
    ·cases ep
   ·cases ep
  ·rename_i ep;exact q.elim
 |ex x Δ=>rw [e] at q;exact λ σ G' H' O E' _=>(EXof K E).mono _ _ _ _ _ E'.st q
 |rt w=>rw [e] at q;exact q.elim
 |bk Δ=>rw [e] at q;exact q.elim
 |ct Δ=>rw [e] at q;exact q.elim
 |no=>rw [e] at q;exact q.elim
theorem cc_5{f:Str}{y:V}:∀{ns:List Str} {us:List V},ns.length=us.length->ns.contains f=false->Cw f y (ns.zip us)=(ns ++ [f]).zip (us ++ [y])
 | [],[],_,_=>rfl
 | [],_::_,e,_=>by simp at e
 |_::_,[],e,_=>by simp at e
 |n::ns,u::us,e,h=>by
  rw [List.contains_cons,Bool.or_eq_false_iff] at h;have hn:¬n=f:=λz=>by rw [z] at h;simp at h
  show Cw f y ((n,u)::ns.zip us)=(n,u)::(ns ++ [f]).zip (us ++ [y]);unfold Cw;rw [if_neg hn,cc_5 (by simpa using e) h.2]
def Cq(i:Nat)(cs:List Str)(f:Str)(js:List Nat)(fe:FE):FS:=λ Δ=>match(gsome js Δ)[i]? with
 |some (.lt (.obj c ns ts))=>if cs.contains c=true/\ns.contains f=false/\ns.length < 1000 then(match fe (Bb (gsome js Δ)) with
  | .ok w=> .nx ((gsome js Δ).set i (.lt (.obj c (ns ++ [f]) (ts ++ [.sh w.d]))))
  | .ex x=> .ex x (gsome js Δ)
  | .no=> .no) else .no
 |_=> .no
section
variable{X:Cx}{EX:Bo}{pos:Pos}
def Ej{i:Nat}{cs:List Str}{f x:Str}(js:List Nat){e:Expr}{fe:FE}{p1 p2:Pos}(k:OFld X.K cs f)(he:ED X EX e fe)(hN:X.N[i]? =some x:=by rfl)(hv:Vis X.env.scope x:=by first|exact Or.inl rfl|exact Or.inr (Or.inl rfl)|exact Or.inr (Or.inr rfl))(hd:(x ==("__debug__" :Str))=false:=by decide)
  (hcd:(x ==("__classdict__" :Str))=false:=by decide) (hs:swapsWith e (some (.Attribute (.Name x p1) f p2)) pos.line X.env=pure false:=by rfl):SD X EX (.Assign [.Attribute (.Name x p1) f p2] e pos) (Cq i cs f js fe):=
 PS.imp (dz_7 (Fe hN hv hd hcd) he hs) λD σ H ⟨H0,G0,G,Δ,O,E,q⟩=>by
  obtain⟨G1,O1,sg,E1⟩:=E.gsome js;unfold Cq at q;generalize gsome js Δ=Δ1 at q E1
  split at q
  ·rename_i c ns ts e1
   split at q
   ·rename_i hc;obtain⟨hc1,hc2,hc3⟩:=hc;refine⟨G1,Bb Δ1,E1.st.gh,E1.gsh, ?_⟩;cases e2:fe (Bb Δ1) with
    |ex y=>simp only [e2] at q;exact q σ G1 H O1 E1 sg
    |no=>simp only [e2] at q;exact q.elim
    |ok w=>
     simp only [e2] at q;refine WP.intro λv G2 H2 st r=> ?_;have E2:=E1.grow st;obtain⟨v0,s1,t⟩:=E2.ow i _ _ e1 rfl;have s2:=E2.lt i _ e1;generalize et:(Tn.obj c ns ts)=t0 at t;cases t with
     | @obj a C dx c2 ns2 us ts2 S S1 hC h hl ha sub rl=>
      injection et with et1 et2 et3
      subst et1 et2 et3;obtain⟨kc,kn⟩:=k _ hc1 _ hC;refine⟨_,s1,_,_,_,_,rfl,h,kc,kn,by rw [List.length_zip,<-hl,Nat.min_self];exact hc3, ?_⟩;rw [cc_5 hl hc2];have ms:=MStep.write (S:=O1 i) E2.st.gh ha (E2.out i _ ha).1 (.ins C dx ((ns ++ [f]).zip (us ++ [v])));refine q σ G2 _ _ (E2.step2 (S:=O1 i) (z:=.lt _) rfl (λ_ z=>by cases z) (λ_ _=>by rw [s1] at s2⊢;exact s2) ms.weak s1 (λb hb=>⟨.inl hb,(E2.out i b hb).1,ms.al b (E2.out i b hb).2.2⟩) ?_) (sg.trans st.gg);refine .obj hC Cs (by rw [List.length_append,List.length_append,hl];rfl) ha sub ?_;refine OwL.append (S2:=λ_=>False) (rl.mono (Same.refl _) (λb o hb z=> ?_) λ_ z=>z) (.cons (S1:=λ_=>False) (S2:=λ_=>False) (.sh r) .nil (λ_ z _=>z) (λ_ z=>z.elim) λ_ z=>z.elim) (λ_ _ z=>z) (λ_ z=>z) λ_ z=>z.elim;rw [Bm (sub b hb).2];exact z
     |_=>cases et
   ·exact q.elim
  ·exact q.elim
end
section
variable{X:Cx}{EX:Bo}{e:Expr}{es:List Expr}{x:Str}{pp pos:Pos}{cc:Bool}{k k' n:Nat}{ps:List Str}{C f:Addr}{fd:FuncData}
def cx_7{zd:List (Addr×Obj)}{σ:Sg}{s:Shared}{Q:VK}{sp:Sp}(M:Mk X.K C f)(F:FnX X.prog X.w X.K X.mg X.base cc k f fd ps sp)(hr:RoomC cc (k + 1) X.A)(hb:Binds X.K fd ps [])(lk:Lk X EX)(I:Inv X zd σ H s)(r:Vals vs us)
  (h:∀x dx,H x=none->H dx=none->dx≠x->sp (.ref x::vs) (upd (upd H dx (.own x)) x (.ins C dx [])) (λv H2=>v=.non/\Q (.ref x) H2) (EXE X.K (EX σ))):wpAny (model X.prog X.w) X.A (call (.ref C) us) (EP X zd σ Q) X.xe s:=by
 have hq:=h (s.heap.objs.size + 1) s.heap.objs.size (I.hok.fresh (Nat.le_succ _)) (I.hok.fresh (Nat.le_refl _)) (Nat.ne_of_lt (Nat.lt_succ_self _));have I2:=Inv.made (C:=C) I;have r2:Vals (V.ref (s.heap.objs.size + 1)::vs) (Value.ref (s.heap.objs.size + 1)::us):=.cons rfl r;have hl:(Value.ref (s.heap.objs.size + 1)::us).length=ps.length:=by
  rw [<-r2.length];exact F.len _ _ _ _ hq
 have hb':=hb _ (Value.ref (s.heap.objs.size + 1)::us) I2.kIn (by rw [List.append_nil];exact hl);rw [List.append_nil] at hb';refine wpAny_call (db_7 (f:=f) I.kIn M.makes M.init (beq_iff_eq.mp M.fn) (codeAny_mono (F.run _ X.stack _ _ ⟨Value.ref (s.heap.objs.size + 1)::us,[]⟩ (Value.ref (s.heap.objs.size + 1)::us) _ _ _ (hr.make C us []) (I2.env0.make C us []) hb' r2 hq) λr s' hq'=> ?_));cases r with
 |error e=>exact lk zd σ _ _ e s' I2 hq'
 |ok fl=>
  cases fl with
  |ret u=>
   obtain⟨v,H',I3,rv,ev,q3⟩:=I2.after hq';subst ev;exact⟨rv,⟨V.ref (s.heap.objs.size + 1),H',I3,rfl,q3⟩⟩
  |next=>exact False.elim hq'
  |brk=>exact False.elim hq'
  |cont=>exact False.elim hq'
def Ew(P:Program)(w:World)(K:Frag)(mg:Str->Option Value)(base:Heap)(cc:Bool)(c:Str)(k n:Nat)(F:List D->R (List Str×List D)):Prop:=
 ∃C f fd ps,ClsAt K c C/\mg c=some (.ref C)/\Mk K C f/\FnX P w K mg base cc k f fd ps (spI K C n F)/\Binds K fd ps []
def Es(c:Str)(n:Nat)(F:List D->R (List Str×List D))(fa:FA):FE:=λ δ=>(fa δ).bind λds=>if ds.length=n then(F ds).bind λp=> .ok (.sh (.obj c p.1 p.2)) else .no
def r_8{F:List D->R (List Str×List D)}{fa:FA}(hr:RoomC cc k' X.A)(lk:Lk X EX)(h:Ew X.prog X.w X.K X.mg X.base cc x k n F)(ha:AD X EX (e::es) fa)(hk:k + 1<=k':=by decide)(hg:Gl X x:=by rfl)(hdb:(x ==("__debug__" :Str))=false:=by decide)
  (he:starEach (e::es) X.env=(false,eval e X.env)::starEach es X.env:=by rfl) (hpl:(backTo pos (starEach es X.env)).any (·.1)=false:=by rfl):ED X EX (.Call (.Name x pp) (e::es) [] pos) (Es x n F fa):=by
 obtain⟨C,f,fd,ps,hC,hm,M,ok,hb⟩:=h;intro zd s σ H Q I q;obtain⟨G,δ,g0,s0,o⟩:=q;refine wpAny_Call_Name_kw (w_9 I hg hm ?_ hdb);have ta:tDa X.K EX fa σ H λvs H1=>∃G1 ds,Same G1 H1/\HasL X.K G1 vs ds/\ds.length=n/\Out X.K (EX σ) G1 H1 ((F ds).bind λp=> .ok (.sh (.obj x p.1 p.2))) Q:=by
  refine tDa.seq g0 s0 o λds vs G' H' _ st r o'=> ?_
  split at o'
  ·rename_i hl;exact⟨G',ds,st.gh,r,hl,o'⟩
  ·exact o'.elim
 refine callWith_K (h₀:=X.base) I.ok.mod.kin M.kp (Bi (ha pos zd s σ H _ I ta) λus s1 ⟨vs,H1,I1,r,G1,ds,sg,rl,hl,o'⟩=>⟨I1.kIn, ?_⟩) he hpl;refine cx_7 M ok (hr.mono hk) hb lk I1 r λy dy ny ndy ne=> ?_;refine⟨y,dy,vs,H1,G1,ds,rfl,by rw [rl.length];exact hl,ny,(λb o e=>by rw [Bm (Fz e ny),Bm (Fz e ndy)];exact e),Cs,sg,rl, ?_⟩;cases ef:F ds with
 |ok p=>
  rw [ef] at o';intro G' H' us' dx' st gy hy zm rr;refine⟨rfl, ?_⟩;have st2:Step G1 H1 (upd G' y (.ins C dx' (p.1.zip us'))) H':=⟨st.hh,λb u z=>by
   by_cases w:b=y
   ·subst w;rw [Cs] at z;rw [hy];exact z
   ·rw [Bm w] at z;exact st.gh b u z,st.gg.trans (o_0 gy _),λb z1 z2=>by
   have w:b≠y:=λw=>z2 (by rw [w];exact ny);rw [Bm w];exact st.nw b z1 z2⟩
  exact o' _ _ _ st2 (.obj hC Cs zm (rr.mono (o_0 gy _)))
 |ex z=>rw [ef] at o';exact EXof.in o'
 |no=>rw [ef] at o';exact o'
end
section
variable{K:Frag}{G:Hp}{a:Addr}{vs:List V}{ds:List D}
end
section
variable{X:Cx}{EX:Bo}{pos:Pos}
end
end L3
namespace L3
open PySem L2 Builtin Builtin.Str
variable{K:Frag}{fd:FuncData}{mg:Str->Option Value}{P:Program}{vs:List V}{us:List Value}{base:Heap}{H:Hp}{X:Cx}{pos:Pos}{v:V}
def bt_3{x y:Str}(h:x.cps.toList=y.cps.toList):x=y:=by
 obtain⟨a⟩:=x;obtain⟨b⟩:=y;simp only at h;have:a=b:=by
  have:=congrArg List.toArray h;simpa using this
 rw [this]
def x_1(x:Str):x.length=x.cps.toList.length:=by simp [Str.length]
def dr_6(x y:Str):(x ++ y).cps.toList=x.cps.toList ++ y.cps.toList:=by
 show(Str.append x y).cps.toList=_;simp [Str.append]
def dg_7(n:Nat)(d:Int):Option Int->Int
 |none=>d
 |some i=>max 0 (min (if i < 0 then i + (n:Int) else i) (n:Int))
def cc_6(n d:Nat)(o:Option Int):dg_7 n (d:Int) o=((HT.sIx n d o:Nat):Int):=by
 cases o with
 |none=>rfl
 |some v=>
  show max 0 (min (if v < 0 then v + (n:Int) else v) (n:Int))=(((if v < 0 then(v + (n:Int)).toNat else min v.toNat n):Nat):Int)
  by_cases hv:v < 0
  ·simp only [if_pos hv];omega
  ·simp only [if_neg hv];omega
def cl_9(lo hi:Option Int)(n:Nat):strSliceIndices lo hi 1 n=(List.range (HT.sIx n n hi - HT.sIx n 0 lo)).map (HT.sIx n 0 lo + ·):=by
 have e:strSliceIndices lo hi 1 n=sliceRange (dg_7 n ((0:Nat):Int) lo) (dg_7 n (n:Int) hi) 1:=by
  unfold strSliceIndices;simp only [show((1:Int) > 0)=True from by simp,if_true];cases lo <;> cases hi <;> rfl
 rw [e,cc_6,cc_6,sliceRange_one]
def be_8(x:Str)(lo hi:Option Int):(Txt.slice x lo hi).cps.toList=cutL x.cps.toList lo hi:=by
 unfold Txt.slice cutL;rw [cl_9];have hl:x.cps.toList.length=x.length:=(x_1 x).symm;rw [hl];have p:=pick_run x.cps (HT.sIx x.length 0 lo) (HT.sIx x.length x.length hi - HT.sIx x.length 0 lo)
 split
 ·rename_i h;have h':((List.range (HT.sIx x.length x.length hi - HT.sIx x.length 0 lo)).map (HT.sIx x.length 0 lo + ·)).length=x.length:=by
   simpa using h
  rw [List.length_map,List.length_range] at h';have h3:=HT.sIx_le x.length x.length (Nat.le_refl _) hi;have h4:=HT.sIx_le x.length 0 (Nat.zero_le _) lo;have e0:HT.sIx x.length 0 lo=0:=by omega
  rw [h',e0,List.drop_zero,List.take_of_length_le (by omega)]
 ·rw [p]
def cx_8(x:Str)(c:Nat):Txt.count x ⟨#[c]⟩=((x.cps.toList.count c:Nat):Int):=by
 unfold Txt.count;rw [StrLaws.occ_eq];have one:∀i,i < x.length->(subAt x ⟨#[c]⟩ i=true↔x.cps.toList[i]? =some c):=by
  intro i hi;unfold subAt;have hi':i < x.cps.size:=hi;have e:x.cps.extract i (i + Str.length ⟨#[c]⟩)= #[x.cps[i]]:=by
   apply Array.ext
   ·simp [Str.length];omega
   ·intro j h1 h2;simp [Str.length] at h1 h2⊢;have:j=0:=by omega
    subst this;rfl
  rw [e];simp [hi']
 have all:∀(m k:Nat) (st:Array Nat×Nat),k + m=x.length + 1->st.2<=k->st.1.size<=k->
   (forIn (List.range' k m) st (StrLaws.occBody x ⟨#[c]⟩ x.length (x.length + 1))).run.fst.size=st.1.size + (x.cps.toList.drop k).count c:=by
  intro m
  induction m with
  |zero=>
   intro k st e h1 h2;have:x.cps.toList.drop k= []:=List.drop_eq_nil_of_le (by rw [<-x_1];omega);rw [this];simp
  |succ m ih=>
   intro k st e h1 h2;rw [List.range'_succ,List.forIn_cons];unfold StrLaws.occBody
   by_cases hk:k < x.length
   ·obtain⟨d,d1,d2⟩:=ab_9 (l:=x.cps.toList) (i:=k) (by rw [<-x_1];exact hk);rw [d2,List.count_cons]
    by_cases hc:d=c
    ·subst hc;have hs:subAt x ⟨#[d]⟩ k=true:=(one k hk).mpr d1;rw [if_pos ⟨⟨⟨by omega,h1⟩,by show k + 1<=x.length;omega⟩,hs⟩];refine(ih (k + 1) (st.1.push k,k + 1) (by omega) (Nat.le_refl _) (by simp;omega)).trans ?_;simp;omega
    ·have hs:¬subAt x ⟨#[c]⟩ k=true:=λz=>by
      have:=(one k hk).mp z;rw [d1] at this;exact hc (Option.some.inj this)
     rw [if_neg λz=>hs z.2];refine(ih (k + 1) (st.1,st.2) (by omega) (by show st.2<=k + 1;omega) (by show st.1.size<=k + 1;omega)).trans ?_;simp [hc]
   ·rw [if_neg λz=>by have:=z.1.2;have e2:(Str.length ⟨#[c]⟩:Nat)=1:=rfl;omega];refine(ih (k + 1) (st.1,st.2) (by omega) (by show st.2<=k + 1;omega) (by show st.1.size<=k + 1;omega)).trans ?_;rw [List.drop_eq_nil_of_le (by rw [<-x_1];omega),List.drop_eq_nil_of_le (by rw [<-x_1];omega)]
 have:=all (x.length + 1) 0 (#[],0) (by omega) (Nat.le_refl _) (Nat.le_refl _);rw [Array.length_toList];refine congrArg (λn:Nat=>(n:Int)) ?_;simpa using this
end L3
namespace L3
open PySem L2
variable{K:Frag}{fd:FuncData}{mg:Str->Option Value}{P:Program}{vs:List V}{us:List Value}{base:Heap}{H:Hp}{X:Cx}{pos:Pos}{v:V}
def Ek(i j:Int):Cv (.int i) (.int j)=.ok (.sh (.bl (decide (i=j)))):=by
 have h:eqvD (.int i) (.int j)=decide (i=j):=by
  show(i ==j)=decide (i=j);rw [Bool.beq_eq_decide_eq]
 show(if eqC (.int i) (.int j)=true then R.ok (W.sh (D.bl (eqvD (.int i) (.int j)))) else .no)=_;rw [if_pos (by rfl),h]
def dr_7(x y:Str):Cv (.str x) (.str y)=.ok (.sh (.bl (decide (x=y)))):=rfl
def dr_8(x y:Str):Fb (.str x) (.str y)=.ok (.sh (.bl (!decide (x=y)))):=rfl
def Gm{i j:Int}(h1: -18446744073709551616 < i)(h2:i < 18446744073709551616):Ei i j=true:=decide_eq_true (.inl (by omega))
def av_1{i j:Int}(h1: -18446744073709551616 < j)(h2:j < 18446744073709551616):Ei i j=true:=decide_eq_true (.inr (by omega))
def Ep{i j:Int}(h:Ei i j=true):Dg (.int i) (.int j)=.ok (.sh (.int (i * j))):=by unfold Dg intD;simp only [h,if_true]
def Gw(i j:Int):Bu (.int i) (.int j)=.ok (.sh (.int (i + j))):=rfl
def be_9(i j:Int):subD (.int i) (.int j)=.ok (.sh (.int (i - j))):=rfl
def x_7{i j:Int}(h1:0 < j)(h2:j < 1361129467683753853853498429727072845824):Dq (.int i) (.int j)=.ok (.sh (.int (i / j))):=by
 exact if_pos (show divC i j=true from decide_eq_true ⟨h1,by omega⟩)
def Fx{i j:Int}(h1:0 < j):Dv (.int i) (.int j)=.ok (.sh (.int (i % j))):=by
 exact if_pos (show modC i j=true from decide_eq_true h1)
def Et(i j:Int):ltD (.int i) (.int j)=.ok (.sh (.bl (decide (i < j)))):=rfl
def cr_9(i j:Int):leD (.int i) (.int j)=.ok (.sh (.bl (decide (i<=j)))):=rfl
def cc_7(i j:Int):gtD (.int i) (.int j)=.ok (.sh (.bl (decide (j < i)))):=rfl
def ei_9(i j:Int):geD (.int i) (.int j)=.ok (.sh (.bl (decide (j<=i)))):=rfl
def dg_8{x y:Str}(h:x.length + y.length<=16777216):Bu (.str x) (.str y)=.ok (.sh (.str (x ++ y))):=if_pos h
def cs_0{x y:List D}(h:x.length + y.length<=16777216):Bu (.lst x) (.lst y)=.ok (.ow (.lst (x ++ y))):=if_pos h
def ec_6{i j:Int}(h:powC i j=true):powD (.int i) (.int j)=.ok (.sh (.int (i ^ j.toNat))):=by unfold powD intD;simp only [h,if_true]
def dg_9{i j:Int}(h1:0<=j)(h2:j<=1000000)(h3: -18446744073709551616 < i)(h4:i < 18446744073709551616):powC i j=true:=decide_eq_true ⟨h1,by omega,by omega⟩
def k_3(ds:List D):By [.lst ds]=.ok (.sh (.int ds.length)):=rfl
def ar_3{x:Str}(h:x.length<=16777216):By [.str x]=.ok (.sh (.int x.length)):=if_pos h
def bt_4(i j:Int):Fp [.int i,.int j]=.ok (.sh (.int (max i j))):=by
 show R.ok (W.sh (D.int (if j > i then j else i)))=_;rw [show(if j > i then j else i)=max i j by rw [Int.max_def];split <;> split <;> omega]
def cm_0(i j:Int):minD [.int i,.int j]=.ok (.sh (.int (min i j))):=by
 show R.ok (W.sh (D.int (if j < i then j else i)))=_;rw [show(if j < i then j else i)=min i j by rw [Int.min_def];split <;> split <;> omega]
def bf_0{ds:List D}{i:Int}{d:D}(h:atI ds i=some d):Cf (.lst ds) (.int i)=.ok (.sh d):=by unfold Cf;simp only [h]
def bb_4{ds:List D}{i:Int}{d:D}(h:atI ds i=some d):Cf (.tup ds) (.int i)=.ok (.sh d):=by unfold Cf;simp only [h]
def dr_9{x:Str}{i:Int}{c:Nat}(hz:x.length<=16777216)(h:atI x.cps.toList i=some c):Cf (.str x) (.int i)=.ok (.sh (.str ⟨#[c]⟩)):=by
 unfold Cf;simp only [h,if_pos hz]
def dh_0{α:Type}{xs:List α}{i:Int}{x:α}(h0:0<=i)(h:xs[i.toNat]? =some x):atI xs i=some x:=by
 have hl:i.toNat < xs.length:=(List.getElem?_eq_some_iff.mp h).1;unfold atI ixN;rw [if_pos h0,if_pos (by omega)];exact h
def ak_5(fg:FG)(g:FS)(I:Nat->SE->Prop){n:Nat}{lo:Int}{Δ:SE}(h0:I 0 Δ)
  (step:∀k Δ,k < n->I k Δ->∃Δ1,fg (.int (lo + (k:Int))) Δ=.ok Δ1/\∃Δ2,(g Δ1=.nx Δ2\/g Δ1=.ct Δ2)/\I (k + 1) Δ2):∃Δ',Ey fg g (Ci lo n) Δ=.nx Δ'/\I n Δ':=by
 have all:∀(m k:Nat) (Δ:SE),k + m=n->I k Δ->∃Δ',Ey fg g ((List.range' k m).map λ(j:Nat)=>D.int (lo + (j:Int))) Δ=.nx Δ'/\I n Δ':=by
  intro m
  induction m with
  |zero=>intro k Δ e h;exact⟨Δ,rfl,by rw [<-e];exact h⟩
  |succ m ih=>
   intro k Δ e h;obtain⟨Δ1,e1,Δ2,e2,h2⟩:=step k Δ (by omega) h;obtain⟨Δ',e3,h3⟩:=ih (k + 1) Δ2 (by omega) h2;refine⟨Δ', ?_,h3⟩;rw [List.range'_succ,List.map_cons];show(match fg (.int (lo + (k:Int))) Δ with
    | .ok Δ1=>(match g Δ1 with
     | .nx Δ2=>Ey fg g _ Δ2
     | .ct Δ2=>Ey fg g _ Δ2
     | .bk Δ2=> .nx Δ2
     |r=>r)
    | .ex _=> .no
    | .no=> .no)=_
   rw [e1];rcases e2 with e2|e2
   ·simp only [e2];exact e3
   ·simp only [e2];exact e3
 obtain⟨Δ',e,h⟩:=all n 0 Δ (by omega) h0;refine⟨Δ', ?_,h⟩;unfold Ci;rw [List.range_eq_range'];exact e
def h_9(fg:FG)(g:FS)(I:Nat->SE->Prop){ds:List D}{Δ:SE}(h0:I 0 Δ)
  (step:∀k d Δ,ds[k]? =some d->I k Δ->∃Δ1,fg d Δ=.ok Δ1/\∃Δ2,(g Δ1=.nx Δ2\/g Δ1=.ct Δ2)/\I (k + 1) Δ2):∃Δ',Ey fg g ds Δ=.nx Δ'/\I ds.length Δ':=by
 have all:∀(m k:Nat) (Δ:SE),k + m=ds.length->I k Δ->∃Δ',Ey fg g (ds.drop k) Δ=.nx Δ'/\I ds.length Δ':=by
  intro m
  induction m with
  |zero=>
   intro k Δ e h;rw [List.drop_eq_nil_of_le (by omega)];exact⟨Δ,rfl,by rw [<-e];exact h⟩
  |succ m ih=>
   intro k Δ e h;obtain⟨d,d1,d2⟩:=ab_9 (l:=ds) (i:=k) (by omega);obtain⟨Δ1,e1,Δ2,e2,h2⟩:=step k d Δ d1 h;obtain⟨Δ',e3,h3⟩:=ih (k + 1) Δ2 (by omega) h2;refine⟨Δ', ?_,h3⟩;rw [d2];show(match fg d Δ with
    | .ok Δ1=>(match g Δ1 with
     | .nx Δ2=>Ey fg g (ds.drop (k + 1)) Δ2
     | .ct Δ2=>Ey fg g (ds.drop (k + 1)) Δ2
     | .bk Δ2=> .nx Δ2
     |r=>r)
    | .ex _=> .no
    | .no=> .no)=_
   rw [e1];rcases e2 with e2|e2
   ·simp only [e2];exact e3
   ·simp only [e2];exact e3
 have:=all ds.length 0 Δ (by omega) h0
 rwa [List.drop_zero] at this
def cx_9{fg:FGc}{p:FT}{f:FE}{δ:DE}{F:Int->D}:∀(n:Nat) (lo:Int),(∀k:Nat,k < n->∃δ1 w,fg (.int (lo + (k:Int))) δ=.ok δ1/\p δ1=.ok true/\f δ1=.ok w/\w.d=F (lo + (k:Int)))->
  Ee fg p f δ (Ci lo n)=.ok ((List.range n).map λ(k:Nat)=>F (lo + (k:Int))):=by
 have all:∀(es:List Nat) (lo:Int),(∀k∈es,∃δ1 w,fg (.int (lo + ((k:Nat):Int))) δ=.ok δ1/\p δ1=.ok true/\f δ1=.ok w/\w.d=F (lo + (k:Int)))->
   Ee fg p f δ (es.map λ(k:Nat)=>D.int (lo + (k:Int)))=.ok (es.map λ(k:Nat)=>F (lo + (k:Int))):=by
  intro es lo
  induction es with
  |nil=>intro _;rfl
  |cons k es ih=>
   intro h;obtain⟨δ1,w,e1,e2,e3,e4⟩:=h k List.mem_cons_self;have e5:=ih λj hj=>h j (List.mem_cons_of_mem _ hj);rw [List.map_cons,List.map_cons];show((fg (.int (lo + (k:Int))) δ).bind λ δ1=>(p δ1).bind λb=>if b=true then(f δ1).bind λw=>(Ee fg p f δ _).bind λrs=> .ok (w.d::rs) else Ee fg p f δ _)=_;rw [e1];simp only [R.bind_ok,e2,if_true,e3];rw [e5];simp only [R.bind_ok,e4]
 intro n lo h;exact all (List.range n) lo λk hk=>h k (List.mem_range.mp hk)
def n_8{j:Int}(h1: -4611686018427387903<=j)(h2:j < 4611686018427387904):Ch [.int j]=.ok (Ci 0 j.toNat):=by
 have h:j.natAbs < 4611686018427387904:=by omega
 exact if_pos h
def Go{m:Nat}{fi:FI}{fg:FGc}{p:FT}{f:FE}{δ:DE}{ds rs:List D}(h:fi δ=.ok ds)(hl:ds.length<=16777216)(hc:Ee fg p f (δ ++ List.replicate m none) ds=.ok rs):Bt m fi fg p f δ=.ok (.ow (.lst rs)):=by
 unfold Bt;rw [h];simp only [R.bind_ok];rw [if_pos hl,hc];rfl
def dw_2{fg:FGc}{p:FT}{f:FE}{δ:DE}:∀(n:Nat) (lo:Int),(∀k:Nat,k < n->∃δ1 z,fg (.int (lo + (k:Int))) δ=.ok δ1/\p δ1=.ok true/\f δ1=.ok (.sh (.int z)))->
  ∃cs:List Int,cs.length=n/\Ee fg p f δ (Ci lo n)=.ok (cs.map D.int):=by
 have all:∀(es:List Nat) (lo:Int),(∀k∈es,∃δ1 z,fg (.int (lo + ((k:Nat):Int))) δ=.ok δ1/\p δ1=.ok true/\f δ1=.ok (.sh (.int z)))->
   ∃cs:List Int,cs.length=es.length/\Ee fg p f δ (es.map λ(k:Nat)=>D.int (lo + (k:Int)))=.ok (cs.map D.int):=by
  intro es lo
  induction es with
  |nil=>intro _;exact⟨[],rfl,rfl⟩
  |cons k es ih=>
   intro h;obtain⟨δ1,z,e1,e2,e3⟩:=h k List.mem_cons_self;obtain⟨cs,l5,e5⟩:=ih λj hj=>h j (List.mem_cons_of_mem _ hj);refine⟨z::cs,by simp [l5], ?_⟩;rw [List.map_cons,List.map_cons];show((fg (.int (lo + (k:Int))) δ).bind λ δ1=>(p δ1).bind λb=>if b=true then(f δ1).bind λw=>(Ee fg p f δ _).bind λrs=> .ok (w.d::rs) else Ee fg p f δ _)=_;rw [e1];simp only [R.bind_ok,e2,if_true,e3];rw [e5];rfl
 intro n lo h;obtain⟨cs,l,e⟩:=all (List.range n) lo λk hk=>h k (List.mem_range.mp hk);exact⟨cs,by rw [l,List.length_range],e⟩
def cc_8{js:List Nat}{p:FT}{g:FS}{n:Nat}{Δ Δ':SE}(h1:p (As Δ)=.ok true)(h2:g Δ=.nx Δ'):Gb js p g (n + 1) Δ=Gb js p g n Δ':=by
 show(match p (As Δ) with
  | .ok b=>if b=true then(match g Δ with
    | .nx Δ'=>Gb js p g n Δ'
    | .ct Δ'=>Gb js p g n Δ'
    | .bk Δ'=> .nx Δ'
    |r=>r) else .nx Δ
  | .ex _=>exT js p Δ
  | .no=> .no)=_
 rw [h1];simp only [if_true,h2]
def av_2{js:List Nat}{p:FT}{g:FS}{n:Nat}{Δ:SE}(h1:p (As Δ)=.ok false):Gb js p g (n + 1) Δ=.nx Δ:=by
 show(match p (As Δ) with
  | .ok b=>if b=true then(match g Δ with
    | .nx Δ'=>Gb js p g n Δ'
    | .ct Δ'=>Gb js p g n Δ'
    | .bk Δ'=> .nx Δ'
    |r=>r) else .nx Δ
  | .ex _=>exT js p Δ
  | .no=> .no)=_
 rw [h1];simp only [Bool.false_eq_true,if_false]
def cm_1(d:D):Sl.pub (.sh d)=some d:=rfl
def dh_1(d:D):Sl.pub (.ow d)=none:=rfl
def dh_2:Sl.pub .no=none:=rfl
def cm_2(d:D):Sl.any (.sh d)=some d:=rfl
def ec_7(d:D):Sl.any (.ow d)=some d:=rfl
def ec_8:Sl.any .no=none:=rfl
def ds_0(d:D):Sl.give (.sh d)=.sh d:=rfl
def ds_1(d:D):Sl.give (.ow d)=.sh d:=rfl
def ds_2:Sl.give .no=.no:=rfl
def Bq{g h:FS}{Δ Δ':SE}(e:g Δ=.nx Δ'):Af g h Δ=h Δ':=by unfold Af;rw [e]
def x_2{n:Nat}{g:FS}{ds:List D}{w:W}(e:g (Az n ds)=.rt w):Ag n g ds=.ok w:=by unfold Ag;rw [e]
theorem ac_0{fg:FGc}{p:FT}{f:FE}{δ:DE}(P:D->Bool)(F:D->D):∀(ds:List D),(∀d∈ds,∃δ1,fg d δ=.ok δ1/\p δ1=.ok (P d)/\(P d=true->∃w,f δ1=.ok w/\w.d=F d))->
  Ee fg p f δ ds=.ok ((ds.filter P).map F)
 | [],_=>rfl
 |d::ds,h=>by
  obtain⟨δ1,e1,e2,e3⟩:=h d List.mem_cons_self;have ih:=ac_0 P F ds λx hx=>h x (List.mem_cons_of_mem _ hx);show((fg d δ).bind λ δ1=>(p δ1).bind λb=>if b=true then(f δ1).bind λw=>(Ee fg p f δ ds).bind λrs=> .ok (w.d::rs) else Ee fg p f δ ds)=_;rw [e1];simp only [R.bind_ok,e2];cases hP:P d with
  |true=>
   obtain⟨w,e4,e5⟩:=e3 hP;rw [if_pos rfl,e4,ih];simp only [R.bind_ok,e5,List.filter_cons_of_pos hP,List.map_cons]
  |false=>
   rw [if_neg Bool.false_ne_true,ih,List.filter_cons_of_neg (by rw [hP];exact Bool.false_ne_true)]
def m_9{fg:FGc}{f:FE}{δ:DE}(F:D->D)(ds:List D)(h:∀d∈ds,∃δ1 w,fg d δ=.ok δ1/\f δ1=.ok w/\w.d=F d):
  Ee fg (λ_=> .ok true) f δ ds=.ok (ds.map F):=by
 have:=ac_0 (fg:=fg) (p:=λ_=> .ok true) (f:=f) (δ:=δ) (λ_=>true) F ds λd hd=>by
  obtain⟨δ1,w,e1,e2,e3⟩:=h d hd;exact⟨δ1,e1,rfl,λ_=>⟨w,e2,e3⟩⟩
 rw [this,List.filter_eq_self.mpr λ_ _=>rfl]
def cy_0(x:Str)(a b:Nat)(h1:a<=b)(h2:b<=x.length):(Txt.slice x (some (a:Int)) (some (b:Int))).cps.toList=(x.cps.toList.drop a).take (b - a):=by
 rw [be_8];unfold cutL;rw [<-x_1];have e1:HT.sIx x.length 0 (some (a:Int))=a:=by
  show(if(a:Int) < 0 then((a:Int) + (x.length:Int)).toNat else min (a:Int).toNat x.length)=a;rw [if_neg (by omega)];omega
 have e2:HT.sIx x.length x.length (some (b:Int))=b:=by
  show(if(b:Int) < 0 then((b:Int) + (x.length:Int)).toNat else min (b:Int).toNat x.length)=b;rw [if_neg (by omega)];omega
 rw [e1,e2]
def cm_3{js:List Nat}{p:FT}{g:FS}(st:Nat->SE){m fuel:Nat}(hf:m < fuel)(go:∀i,i < m->p (As (st i))=.ok true/\g (st i)=.nx (st (i + 1)))(stop:p (As (st m))=.ok false):Gb js p g fuel (st 0)=.nx (st m):=by
 have all:∀(k i fuel:Nat),i + k=m->k < fuel->Gb js p g fuel (st i)=.nx (st m):=by
  intro k
  induction k with
  |zero=>
   intro i fuel e hf;obtain⟨f,rfl⟩:∃f,fuel=f + 1:=⟨fuel - 1,by omega⟩;have:i=m:=by omega
   subst this;exact av_2 stop
  |succ k ih=>
   intro i fuel e hf;obtain⟨f,rfl⟩:∃f,fuel=f + 1:=⟨fuel - 1,by omega⟩;obtain⟨h1,h2⟩:=go i (by omega);rw [cc_8 h1 h2];exact ih (i + 1) f (by omega) (by omega)
 exact all m 0 fuel (by omega) hf
theorem bn_9{α:Type}(f:α->Str):∀l:List α,bn_2 (l.map λa=> .str (f a))=some (l.map f)
 | []=>rfl
 |a::l=>by
  show(bn_2 (l.map λa=> .str (f a))).map (f a:: ·)=_;rw [bn_9 f l];rfl
theorem bo_0:∀(l:List Str) (zp:Array Nat),(l.foldl (λzp p=>zp ++ (Str.ofString "").cps ++ p.cps) zp).toList=zp.toList ++ (l.map λx=>x.cps.toList).flatten
 | [],zp=>by simp
 |x::l,zp=>by
  rw [List.foldl_cons,bo_0 l];have e:(Str.ofString "").cps= #[]:=rfl;simp [e]
def cc_9(l:List Str):(Txt.join (Str.ofString "") l).cps.toList=(l.map λx=>x.cps.toList).flatten:=by
 unfold Txt.join Builtin.Str.glued;cases l with
 |nil=>rfl
 |cons x l=>
  show(l.foldl (λzp p=>zp ++ (Str.ofString "").cps ++ p.cps) x.cps).toList=_;rw [bo_0];simp
def cd_0{α:Type}(f:α->Str)(l:List α)(h:((l.map f).map (·.length)).sum<=16777216):aq_9 (.str "") [.lst (l.map λa=> .str (f a))]=.ok (.sh (.str (Txt.join (Str.ofString "") (l.map f)))):=by
 unfold aq_9;simp only [bn_9];have e:Str.length (Str.ofString "")=0:=rfl;exact if_pos (by rw [e];omega)
def cd_1:De "int" .non=some false:=rfl
def cm_4(b:Bool):De "int" (.bl b)=some true:=rfl
def cd_2(i:Int):De "int" (.int i)=some true:=rfl
def cd_3(x:Str):De "int" (.str x)=some false:=rfl
def cd_4(l:List D):De "int" (.lst l)=some false:=rfl
def cd_5(l:List D):De "int" (.tup l)=some false:=rfl
def bt_5:De "bool" .non=some false:=rfl
def cd_6(b:Bool):De "bool" (.bl b)=some true:=rfl
def bt_6(i:Int):De "bool" (.int i)=some false:=rfl
def bt_7(x:Str):De "bool" (.str x)=some false:=rfl
def bt_8(l:List D):De "bool" (.lst l)=some false:=rfl
def bt_9(l:List D):De "bool" (.tup l)=some false:=rfl
def cd_7:De "str" .non=some false:=rfl
def cm_5(b:Bool):De "str" (.bl b)=some false:=rfl
def cd_8(i:Int):De "str" (.int i)=some false:=rfl
def cd_9(x:Str):De "str" (.str x)=some true:=rfl
def ce_0(l:List D):De "str" (.lst l)=some false:=rfl
def ce_1(l:List D):De "str" (.tup l)=some false:=rfl
def bu_0:De "list" .non=some false:=rfl
def ce_2(b:Bool):De "list" (.bl b)=some false:=rfl
def bu_1(i:Int):De "list" (.int i)=some false:=rfl
def bu_2(x:Str):De "list" (.str x)=some false:=rfl
def bu_3(l:List D):De "list" (.lst l)=some true:=rfl
def bu_4(l:List D):De "list" (.tup l)=some false:=rfl
def bj_6:De "tuple" .non=some false:=rfl
def bu_5(b:Bool):De "tuple" (.bl b)=some false:=rfl
def bj_7(i:Int):De "tuple" (.int i)=some false:=rfl
def bj_8(x:Str):De "tuple" (.str x)=some false:=rfl
def bj_9(l:List D):De "tuple" (.lst l)=some false:=rfl
def bk_0(l:List D):De "tuple" (.tup l)=some true:=rfl
end L3
namespace L3
open PySem PySem.Spec PyProof.Rows L2
variable{K:Frag}{fd:FuncData}{mg:Str->Option Value}{P:Program}{vs:List V}{us:List Value}{base:Heap}{H:Hp}{X:Cx}{pos:Pos}{v:V}
def bu_6:List Value->Bool
 | .ref _::r=>bu_6 r
 |l=>l == [.type "ValueError",.type "Exception",.type "BaseException",.type "object"]
theorem am_1(self:Value):∀{l:List Value},bu_6 l=true->refuseLoop self "__setattr__" l=pure ()
 | [],e=>by cases e
 | .ref c::r,e=>by rw [refuseLoop_ref];exact am_1 self e
 | .type n::r,e=>by
  have e':(Value.type n::r)= [.type "ValueError",.type "Exception",.type "BaseException",.type "object"]:=eq_of_beq e;rw [e'];exact PySem.F.store_ValueError.passes self
 | .none::r,e=>by cases(eq_of_beq (show((Value.none::r) == [.type "ValueError",.type "Exception",.type "BaseException",.type "object"])=true from e))
 | .bool b::r,e=>by cases(eq_of_beq (show((Value.bool b::r) == [.type "ValueError",.type "Exception",.type "BaseException",.type "object"])=true from e))
 | .int b t::r,e=>by cases(eq_of_beq (show((Value.int b t::r) == [.type "ValueError",.type "Exception",.type "BaseException",.type "object"])=true from e))
 | .str b t::r,e=>by cases(eq_of_beq (show((Value.str b t::r) == [.type "ValueError",.type "Exception",.type "BaseException",.type "object"])=true from e))
 | .builtin b::r,e=>by cases(eq_of_beq (show((Value.builtin b::r) == [.type "ValueError",.type "Exception",.type "BaseException",.type "object"])=true from e))
theorem bf_1:∀{l:List Value},bu_6 l=true->l.contains (.type "object")=true/\l.isEmpty=false
 | [],e=>by cases e
 | .ref c::r,e=>⟨by rw [List.contains_cons,(bf_1 (l:=r) e).1,Bool.or_true],rfl⟩
 | .type n::r,e=>by
  have e':(Value.type n::r)= [.type "ValueError",.type "Exception",.type "BaseException",.type "object"]:=eq_of_beq e;rw [e'];exact⟨by decide,rfl⟩
 | .none::r,e=>by cases(eq_of_beq (show((Value.none::r) == [.type "ValueError",.type "Exception",.type "BaseException",.type "object"])=true from e))
 | .bool b::r,e=>by cases(eq_of_beq (show((Value.bool b::r) == [.type "ValueError",.type "Exception",.type "BaseException",.type "object"])=true from e))
 | .int b t::r,e=>by cases(eq_of_beq (show((Value.int b t::r) == [.type "ValueError",.type "Exception",.type "BaseException",.type "object"])=true from e))
 | .str b t::r,e=>by cases(eq_of_beq (show((Value.str b t::r) == [.type "ValueError",.type "Exception",.type "BaseException",.type "object"])=true from e))
 | .builtin b::r,e=>by cases(eq_of_beq (show((Value.builtin b::r) == [.type "ValueError",.type "Exception",.type "BaseException",.type "object"])=true from e))
structure XCls(K:Frag)(C:Addr):Prop where
 sa:findIn K (.ref C) "__setattr__" =some (some (.builtin "object.__setattr__"))
 over:(clsIn K C).any (λcd=>bu_6 cd.mro && cd.hasDict)=true
section
variable{prog:Program}{w:World}{A:Around}{E:Value->Shared->Prop}{s:Shared}{K:Frag}{x C:Addr}{R:Result->Shared->Prop}
def ds_3{ox:Obj}{od:Option Obj}{name:Str}{tk:Tok}{v:Value}(X:K.In s.heap)(I:InstAt s.heap x ox C od)(xc:XCls K C)(ha:findIn K (.ref C) name=some none)
  (h:wpAny (model prog w) A.in1 (Builtin.ObjectAttr.storeInOwnDict (.ref x) (.ref C) (.str name tk) name v false)
   (λfin s'=>match fin with| .done f=>R (.ok f) s'| .again c'=>c'.quiet=true/\codeAny (model prog w) A c' R s') (λe s'=>R (.error e) s') s):
  codeAny (model prog w) A (.call (.builtin "object.__setattr__") ⟨[.ref x,.str name tk,v],[]⟩) R s:=by
 have SF:=PySem.F.store_object;obtain⟨cd,hc,ho⟩:=any_some xc.over;rw [Bool.and_eq_true] at ho;obtain⟨hs1,hs2⟩:=bf_1 ho.1;have sub:Looks (model prog w) s.heap (isInstance (.ref x) (.type "object")) true:=I.type.andThen (looks_mroIn X (by unfold mroIn;rw [hc,Option.bind_some,if_neg (by rw [hs2];decide),hs1]));refine codeAny_call_builtin SF.slot.plain SF.entry (@check_slot (model prog w) _ _ s "object.__setattr__" "object" "__setattr__" (.ref x) [.str name tk,v] [] _ SF.kind SF.split sub (SF.args (.ref x) (.str name tk) v) ?_);have hm:Looks (model prog w) s.heap (mroOf (.ref C)) cd.mro:=(looks_clsIn X hc).andThen .now;rw [osa_eq,refuse_eq];refine wpAny_bind (wpAny_bind (I.type.here (wpAny_bind (hm.here ?_))));rw [am_1 _ ho.1];refine wpAny_pure (wpAny_bind (I.type.here (wpAny_bind ((looks_findIn X ha).here (wpAny_bind (wpAny_pure (a:=(none:Option Value)) ?_))))));exact h
def cy_1{D:Addr}{name:Str}{tk:Tok}{v:Value}{Q:PySem.Fin->Shared->Prop}(hD:s.heap.get? D=some {cls:=.type "dict",data:=.dict #[]})
  (h:∀h' tk,h'.Ns1 D (λy=>if y=name then some v else none)->Heap.SameBut D s.heap h'->Q (.done (.ret .none)) {s with heap:=h',toks:=tk}):wpAny (model prog w) A (Builtin.ObjectAttr.storeInDict D (.str name tk) name v) Q E s:=by
 have bx:s.heap.Ns D λ_=>none:=⟨_, #[],_,hD,rfl,λ_ he=>(Array.not_mem_empty _ he).elim,λ_=>rfl⟩;unfold Builtin.ObjectAttr.storeInDict Builtin.ObjectAttr.newKeyGuard
 wp_walk using wpAny_nsSet1 (Heap.Ns1.of_empty bx)
 intro h' n sb;obtain⟨o,es,ep,at1,is1,few⟩:=n.count (.cons name v .nil);have le:es.size<=sizeLine + 1:=Nat.le_trans few (by simp [sizeLine_eq]);exact wpAny_bind (wpAny_lookBehind at1 (is1▸pastItsLine_dict le) (wpAny_pure (h h' _ n sb)))
def ce_3{name:Str}{v:Value}{us:Array Value}{Q:Unit->Shared->Prop}(X:K.In s.heap)(hx:s.heap.get? x=some ⟨.ref C,none,.fields us, #[]⟩)(xc:XCls K C)(ha:findIn K (.ref C) name=some none)
  (h:∀h' tk,h'.get? x=some ⟨.ref C,some s.heap.objs.size,.fields us, #[]⟩->h'.Ns1 s.heap.objs.size (λy=>if y=name then some v else none)->(∀b o,b≠x->s.heap.get? b=some o->h'.get? b=some o)->Q () {s with heap:=h',toks:=tk}):
  wpAny (model prog w) A (setAttr (.ref x) name v) Q E s:=by
 have I:InstAt s.heap x ⟨.ref C,none,.fields us, #[]⟩ C none:=⟨hx,rfl,rfl,True.intro⟩;refine set_plain X I xc.sa (ds_3 (s:={s with toks:=s.toks + 1}) X I xc ha ?_);obtain⟨cd,hc,hd'⟩:=any_some xc.over;rw [Bool.and_eq_true] at hd';refine wpAny_bind (wpAny_pure (wpAny_bind (wpAny_bind (wpAny_loadPart (s:={s with toks:=s.toks + 1}) hx (wpAny_bind (Looks.here (s:={s with toks:=s.toks + 1}) (looks_clsIn X hc) ?_))))));rw [hd'.2]
 
 have Fb:x≠s.heap.objs.size:=Nat.ne_of_lt (Heap.lt_size hx);have old:∀b o,b≠x->s.heap.get? b=some o->((s.heap.push {cls:=.type "dict",data:=.dict #[]}).update x λo=>{o with dict:=some s.heap.objs.size}).get? b=some o:=λb o hb e=>by
  rw [Heap.get?_update_ne _ _ _ _ hb];exact Heap.get?_push_of_some _ e
 have itself:=Heap.get?_update_self (λo:Obj=>{o with dict:=some s.heap.objs.size}) (Heap.get?_push_of_some {cls:=.type "dict",data:=.dict #[]} hx) rfl;have isD:((s.heap.push {cls:=.type "dict",data:=.dict #[]}).update x λo=>{o with dict:=some s.heap.objs.size}).get? s.heap.objs.size=some {cls:=.type "dict",data:=.dict #[]}:=by
  rw [Heap.get?_update_ne _ _ _ _ (Ne.symm Fb)];exact Heap.get?_push_size _ rfl
 refine wpAny_bind (wpAny_alloc' (wpAny_bind (wpAny_update' (Heap.get?_push_of_some _ hx) (wpAny_pure (cy_1 isD λh' tk n sb=>h h' tk ?_ n λb o hb e=> ?_)))))
 ·rw [sb.2 x Fb];exact itself
 ·rw [sb.2 b (Nat.ne_of_lt (Heap.lt_size e))];exact old b o hb e
end
def XE(a:Addr)(o:Obj):HO:=.ext λh=>h.get? a=some o
def XE.ok{w:World}{h:Heap}{a:Addr}{o:Obj}(e:h.get? a=some o):ObjOk P w H h a (XE a o):=⟨e,⟨o,e⟩,λ_ _ p k=>k _ p⟩
theorem XE.get{w:World}{h:Heap}{a:Addr}{o:Obj}(x:HOk P w H h)(e:H a=some (XE a o)):h.get? a=some o:=(x a _ e).1
def XO.ok{w:World}{h:Heap}{a C:Addr}{dx:Option Addr}{us:Array Value}{sl:Array (Option Value)}(e:h.get? a=some ⟨.ref C,dx,.fields us,sl⟩):ObjOk P w H h a (XO a C dx):=
 ⟨⟨us,sl,e⟩,⟨_,e⟩,λ_ _ ⟨us,sl,p⟩ k=>⟨us,sl,k _ p⟩⟩
section
variable{X:Cx}{zd:List (Addr×Obj)}{σ:Sg}{H:Hp}{s:Shared}
def Inv.excSet{a:Addr}{o0 o1:Obj}{h':Heap}{t':Nat}{fs:List (Str×V)}{mA:Str->Option Value}(I:Inv X zd σ H s)(e:H a=some (XE a o0))(hx:h'.get? a=some o1)(hn:h'.Ns1 s.heap.objs.size mA)(hr:∀f,RelO (fs.lookup f) (mA f))
  (k:∀b o,b≠a->s.heap.get? b=some o->h'.get? b=some o):Inv X zd σ (upd (upd H s.heap.objs.size (.xd fs)) a (XE a o1)) {s with heap:=h',toks:=t'}:=by
 have hf:H s.heap.objs.size=none:=I.hok.fresh (Nat.le_refl _);have other:∀b u,H b=some u->b≠a->(upd (upd H s.heap.objs.size (.xd fs)) a (XE a o1)) b=some u:=λb u q n=>by
  rw [Bm n,Bm (Fz q hf)];exact q
 refine I.un (h':=h') ⟨λb o q n _ _=>k b o (λz=>by subst z;rw [e] at n;cases n) q,λb o q n _ _=>⟨o.slots,k b o (λz=>by subst z;rw [e] at n;cases n) q⟩,λb o q n _=> ?_,λb o q _=> ?_,λb xs q=> ?_,λb o u q=> ?_,λb ps q=> ?_⟩ λb u q=> ?_
 ·rw [Bm (λz=>by subst z;rw [e] at n;cases n),Bm (Nat.ne_of_lt (Heap.lt_size q))];exact n
 ·by_cases z:b=a
  ·subst z;exact⟨_,hx⟩
  ·exact⟨_,k b o z q⟩
 ·exact other b _ q λz=>by subst z;rw [e] at q;cases q
 ·exact other b _ q λz=>by subst z;rw [e] at q;cases q
 ·exact⟨#[],by rw [other b _ q λz=>by subst z;rw [e] at q;cases q];simp⟩
 ·by_cases z:b=a
  ·subst z;rw [Cs] at q;cases q;exact XE.ok hx
  ·rw [Bm z] at q
   by_cases z2:b=s.heap.objs.size
   ·subst z2;rw [Cs] at q;cases q;exact⟨mA,hn,hr⟩
   ·rw [Bm z2] at q;refine(I.hok b u q).stay (λc v hc z3=>k c v ?_ z3) (λc z3=>other c _ z3 λz4=> ?_) λc xs z3=>other c _ z3 λz4=> ?_
    ·rcases hc with rfl|hc
     ·exact z
     ·exact λz4=>by subst z4;rw [e] at hc;cases hc
    ·subst z4;rw [e] at z3;cases z3
    ·subst z4;rw [e] at z3;cases z3
def Inv.forget{a:Addr}{φ:Heap->Prop}(I:Inv X zd σ (upd H a (.ext φ)) s)(hn:H a=none):Inv X zd σ H s:=by
 have sub:∀b u,H b=some u->upd H a (.ext φ) b=some u:=λb u e=>by rw [Bm (Fz e hn)];exact e
 have nf:∀b,upd H a (.ext φ) b=none->H b=none:=λb e=>by
  by_cases z:b=a
  ·subst z;exact hn
  ·rw [Bm z] at e;exact e
 have bk:∀b u,upd H a (.ext φ) b=some u->(∀ψ,u≠ .ext ψ)->H b=some u:=λb u e n=>by
  by_cases z:b=a
  ·subst z;rw [Cs] at e;cases e;exact absurd rfl (n φ)
  ·rw [Bm z] at e;exact e
 have B:=I.base;refine⟨I.ok,I.os,I.bare,⟨B.keep,B.slot,λb u q n x=>nf b (B.free b u q n x),B.there,λb xs q=>bk _ _ (B.tups b xs q) (λ_ z=>nomatch z),λb u v q=>bk _ _ (B.frzs b u v q) (λ_ z=>nomatch z),λb ps q=> ?_⟩,I.loc,I.cell,nf _ I.free,λx c e=>nf _ (I.freeC x c e),λp hp=> ?_,λb u e=> ?_,I.len⟩
 ·obtain⟨more,z⟩:=B.tbls b ps q;exact⟨more,bk _ _ z (λ_ z=>nomatch z)⟩
 ·obtain⟨p1,p2,p3⟩:=I.pin p hp;exact⟨p1,nf _ p2,p3⟩
 ·exact(I.hok b u (sub b u e)).stay (λ_ _ _ q=>q) (λc q=>bk _ _ q (λ_ z=>nomatch z)) (λc xs q=>bk _ _ q (λ_ z=>nomatch z))
end
def ai_0(C:Addr)(f:Str):Sp:=λvs H Q _=>∃a v us,vs= [.ref a,v]/\H a=some (XE a ⟨.ref C,none,.fields us, #[]⟩)/\∀d,H d=none->d≠a->Q .non (upd (upd H d (.xd [(f,v)])) a (XE a ⟨.ref C,some d,.fields us, #[]⟩))
section
variable{X:Cx}{C:Addr}{f:Str}{pos pos' p1 p2:Pos}{x y:Str}
def dw_3(C:Addr)(f:Str):TS:=λD σ H=>∃a v us,σ[0]? =some (some (.ref a))/\σ[1]? =some (some v)/\H a=some (XE a ⟨.ref C,none,.fields us, #[]⟩)/\∀d,H d=none->d≠a->D.nx σ (upd (upd H d (.xd [(f,v)])) a (XE a ⟨.ref C,some d,.fields us, #[]⟩))
def bb_5(xc:XCls X.K C)(hn:findIn X.K (.ref C) f=some none)(ho:PE X (.Name x p1) (tVar 0))(hv:PE X (.Name y p2) (tVar 1))(hs:swapsWith (.Name y p2) (some (.Attribute (.Name x p1) f pos')) pos.line X.env=pure false:=by rfl):
  PS X (.Assign [.Attribute (.Name x p1) f pos'] (.Name y p2) pos) (dw_3 C f):=by
 intro zd s σ H D I h;obtain⟨a,v,us,e0,e1,ha,q⟩:=h;refine plainObj_wpAny_Assign_Attribute (Bi (hv zd s σ H (λy H1=>y=v/\H1=H) I ⟨v,e1,rfl,rfl⟩) λu s1 ⟨y,H1,I1,ry,ey,eH⟩=>Bi (ho zd s1 σ H1 (λy H2=>y=.ref a/\H2=H) I1 ⟨.ref a,e0,rfl,eH⟩) λov s2 ⟨x,H2,I2,rx,ex,eH2⟩=> ?_) hs;subst ey ex eH eH2;obtain rfl:ov=Value.ref a:=rx;refine ce_3 I2.kIn (XE.get I2.hok ha) xc hn λh' tk g1 g2 g3=> ?_;refine⟨σ,_,Inv.excSet I2 (t':=tk) (fs:=[(f,y)]) ha g1 g2 (λg=> ?_) g3,q _ (I2.hok.fresh (Nat.le_refl _)) ?_⟩
 ·show RelO ([(f,y)].lookup g) (if g=f then some u else none)
  by_cases z:g=f
  ·subst z;rw [if_pos rfl];simp only [List.lookup_cons,beq_self_eq_true];exact ry
  ·rw [if_neg z];have zb:(g ==f)=false:=by simpa using z
   simp only [List.lookup_cons,zb,List.lookup_nil]
   trivial
 ·exact Nat.ne_of_gt (Heap.lt_size (XE.get I2.hok ha))
end
abbrev bmVE:List Value:=[.type "ValueError",.type "Exception",.type "BaseException",.type "object"]
def q_6(es:Array DictEntry):Bool:=es.toList.all λe=>match e.key with| .str _ _=>true|_=>false
def cm_6{es:Array DictEntry}(h:q_6 es=true):StrKeys es:=λe he=>by
 have q:=List.all_eq_true.mp h e (Array.mem_toList_iff.mpr he);revert q;cases hk:e.key with
 |str n t=>intro _;exact⟨n,t,rfl⟩
 |_=>intro q;cases q
def cs_1{N:Addr}{oc:Value}{od:Option Addr}{es:Array DictEntry}{ep:Nat}{sl:Array (Option Value)}(l:K.lookup N=some ⟨oc,od,.dict es ep,sl⟩)(k:q_6 es=true){h:Heap}(X:K.In h):h.Ns N (nsFind es):=
 ⟨_,es,ep,X _ _ l,rfl,cm_6 k,λ_=>rfl⟩
def XMk(K:Frag)(C fI:Addr):Prop:=∃(nm q:Str) (N:Addr) (bs bm:List Value) (sn:List Str) (sub:List Value) (ab:Bool) (col:Option Bool) (dd:Option Addr) (k0 k1 k2 k3 k5:Option Value) (mN:Str->Option Value),
 K.lookup C=some (excClassObj nm q C N bs bm true sn sub ab col dd k0 k1 k2 k3 k5 "ValueError.__new__")/\(∀h:Heap,K.In h->OwnTail h bmVE bm)/\(∀h:Heap,K.In h->h.Ns N mN)/\mN "__init__" =some (.ref fI)
def ec_9{C fI N L:Addr}{nm q:Str}{bs:List Value}{sn:List Str}{sub:List Value}{ab:Bool}{col:Option Bool}{dd:Option Addr}{k0 k1 k2 k3 k5:Option Value}{oc c0 oL:Value}{od ddL odL:Option Addr}{es esL:Array DictEntry}{ep epL:Nat}{sl sl0 slL:Array (Option Value)}{cd:ClassData}
  (lc:K.lookup C=some (excClassObj nm q C N bs (.ref L::bmVE) true sn sub ab col dd k0 k1 k2 k3 k5 "ValueError.__new__")) (ln:K.lookup N=some ⟨oc,od,.dict es ep,sl⟩) (kn:q_6 es=true) (hi:nsFind es "__init__" =some (.ref fI))
  (ll:K.lookup L=some ⟨c0,ddL,.cls cd,sl0⟩) (lm:K.lookup cd.ns=some ⟨oL,odL,.dict esL epL,slL⟩) (km:q_6 esL=true) (hL:nsFind esL "__init__" =none):XMk K C fI:=
 ⟨nm,q,N,bs,_,sn,sub,ab,col,dd,k0,k1,k2,k3,k5,nsFind es,lc,λh X=> .own (X _ _ ll) (cs_1 lm km X) hL .base,λh X=>cs_1 ln kn X,hi⟩
def ds_4{C N L:Addr}{nm q:Str}{bs:List Value}{sn:List Str}{sub:List Value}{ab:Bool}{col:Option Bool}{dd:Option Addr}{k0 k1 k2 k3 k5:Option Value}
  (lc:K.lookup C=some (excClassObj nm q C N bs (.ref L::bmVE) true sn sub ab col dd k0 k1 k2 k3 k5 "ValueError.__new__")) (sa:findIn K (.ref C) "__setattr__" =some (some (.builtin "object.__setattr__"))):XCls K C:=
 ⟨sa,by unfold clsIn;rw [lc];rfl⟩
def bb_6{c:Bool}{w:World}{x qual sf at_ fl:Str}{st:Stmt}{f C:Addr}{k:Nat}(F:Fun K x qual st f fd)(S:FnScope [sf,at_] [sf,at_] (Ck st))
  (zk:∀(zq:Value) (A:Around) (outer:List Env) (s:Shared) (H:Hp) (E:XK),PSs (cxN c P w K mg base [sf,at_] qual (Ck st) f zq A outer s H E) (Fc st) (dw_3 C fl)):FnX P w K mg base c (k + 1) f fd [sf,at_] (ai_0 C fl):=by
 refine Fun.okX F S (λvs H Q E h=> ?_) λzq A outer s H vs Q E hr h=>⟨_,zk zq A outer s H E, ?_⟩
 ·obtain⟨a,v,us,rfl,_⟩:=h;rfl
 ·obtain⟨a,v,us,rfl,ha,q⟩:=h;exact⟨a,v,us,rfl,rfl,ha,q⟩
theorem av_3{h:Heap}:∀{bm:List Value},OwnTail h bmVE bm->bm.contains (.type "BaseException")=true
 |_,.base=>by decide
 |_,.own _ _ _ t=>by rw [List.contains_cons,av_3 t,Bool.or_true]
structure XC(P:Program)(w:World)(K:Frag)(mg:Str->Option Value)(base:Heap)(c:Str)(f:Str)(C:Addr):Prop where
 at_:ClsAt K c C
 glob:mg c=some (.ref C)
 kp:keepIn K (.ref C)=true
 xc:XCls K C
 made:∃(fI:Addr) (fd:FuncData) (ps:List Str) (oI:Obj),XMk K C fI/\K.lookup fI=some oI/\oI.cls=.type "function" /\FnX P w K mg base false 1 fI fd ps (ai_0 C f)/\Binds K fd ps []
section
variable{X:Cx}{zd:List (Addr×Obj)}{σ:Sg}{H:Hp}{s:Shared}{C:Addr}{c f:Str}
def dh_3{e d:Addr}{o0 o1 x:HO}:upd (upd (upd H e o0) d x) e o1=upd (upd H d x) e o1:=by
 funext b
 unfold upd
 by_cases z:b=e
 ·rw [if_pos z,if_pos z]
 ·rw [if_neg z,if_neg z,if_neg z]
def cy_2{u:Value}{Q:Value->Shared->Prop}{E:Value->Shared->Prop}(M:XC X.prog X.w X.K X.mg X.base c f C)(hr:RoomC false 2 X.A)(I:Inv X zd σ H s)(r:RelV v u)
  (h:∀a d t s',H a=none->H d=none->d≠a->s.heap.objs.size<=a->Inv X zd σ (upd (upd H d (.xd [(f,v)])) a (XE a ⟨.ref C,some d,.fields #[.ref t,.none,.none,.none,.bool false,.none], #[]⟩)) s'->Q (.ref a) s'):
  wpAny (model X.prog X.w) X.A (call (.ref C) [u]) Q E s:=by
 obtain⟨fI,fd,ps,oI,⟨nm,q,N,bs,bm,sn,sub,ab,col,dd,k0,k1,k2,k3,k5,mN,lc,tl,hn,hi⟩,lI,hI,F,hb⟩:=M.made;have KX:=I.kIn;obtain⟨hh,g,dr,tk,os⟩:=s;refine dc_9 PySem.F.excBase_ValueError (tl hh KX) (KX _ _ lc) (hn hh KX) hi (KX _ _ lI) hI (λh' e me ze=> ?_) (by show 1<=sizeLine;rw [sizeLine_eq];omega);obtain⟨kk,new,t,et,_,_⟩:=me;have I2:Inv X zd σ (upd H e (XE e ⟨.ref C,none,.fields #[.ref t,.none,.none,.none,.bool false,.none], #[]⟩)) ⟨h',g,dr,tk,os⟩:=I.laid (h':=h') (t':=tk) kk ze (XE.ok et);have he:H e=none:=I.hok.fresh ze;have r2:Vals [.ref e,v] [.ref e,u]:=.cons rfl (.cons r .nil);have sp:ai_0 C f [.ref e,v] (upd H e (XE e ⟨.ref C,none,.fields #[.ref t,.none,.none,.none,.bool false,.none], #[]⟩)) (λy H2=>y=.non/\∃d,H d=none/\d≠e/\H2=upd (upd H d (.xd [(f,v)])) e (XE e ⟨.ref C,some d,.fields #[.ref t,.none,.none,.none,.bool false,.none], #[]⟩)) (λ_ _ _=>False):=
  ⟨e,v,_,rfl,Cs,λd hd ne=>⟨rfl,d,by rw [Bm ne] at hd;exact hd,ne,dh_3⟩⟩
 have hl: [Value.ref e,u].length=ps.length:=F.len _ _ _ _ sp;have hb':=hb ⟨h',g,dr,tk,os⟩ [.ref e,u] I2.kIn (by rw [List.append_nil];exact hl);rw [List.append_nil] at hb';refine wpAny_call (codeAny_mono (F.run _ X.stack _ _ ⟨[.ref e,u],[]⟩ [.ref e,u] [.ref e,v] _ _ (hr.make C [u] []) (I2.env0.make C [u] []) hb' r2 sp) λr s' hq=> ?_);cases r with
 |error x=>
  obtain⟨a,C',dx,T,H',_,_,_,_,_,_,_,_,_,_,z⟩:=hq;exact z.elim
 |ok fl=>
  cases fl with
  |ret y=>
   obtain⟨v',H',I3,rv,ev,d,hd,ne,eH⟩:=I2.after hq;subst ev eH;exact⟨rv,h e d t s' he hd ne ze I3⟩
  |next=>exact False.elim hq
  |brk=>exact False.elim hq
  |cont=>exact False.elim hq
def Lk1(X:Cx)(EX:Bo):Prop:=∀(zd:List (Addr×Obj)) (σ:Sg) (H H':Hp) (s s':Shared) (a C:Addr) (dx:Option Addr) (o:Obj) (us:Array Value),Inv X zd σ H s->Inv X zd σ H' s'->s'.heap.get? a=some o->o.cls=.ref C->o.dict=dx->o.data=.fields us->us[1]? =some .none->
 H' a=none->s.heap.objs.size<=a->EXE X.K (EX σ) (.ref C) dx H'->X.xe (.ref a) s'
def v_2{cm:Bool}{w:World}{N:List Str}{qual:Str}{scope:Scope}{f:Addr}{cd:Value}{A:Around}{outer:List Env}{s:Shared}{E:XK}:
  Lk1 (cxN cm P w K mg base N qual scope f cd A outer s H E) (λ_=>EXof K E):=λzd σ H H' s s' a C dx o us I I' he hc hx hd h1 n1 z1 q=>br_8 I I' he hc hx hd h1 n1 z1 q.of
def x_8(c f:Str)(js:List Nat)(fe:FE):FS:=λ Δ=>match fe (Bb (gsome js Δ)) with
 | .ok w=> .ex ⟨c,[f],[w.d]⟩ (gsome js Δ)
 | .ex x=> .ex x (gsome js Δ)
 | .no=> .no
def v_6{EX:Bo}(js:List Nat){e:Expr}{fe:FE}{np zf pos:Pos}(M:XC X.prog X.w X.K X.mg X.base c f C)(hr:RoomC true 2 X.A)(l1:Lk1 X EX)(he:ED X EX e fe)(hg:Gl X c:=by rfl)(hdb:(c ==("__debug__" :Str))=false:=by decide)
  (hs:starEach [e] X.env=(false,eval e X.env)::starEach [] X.env:=by rfl) (hpl:(backTo zf (starEach [] X.env)).any (·.1)=false:=by rfl):
  SD X EX (.Raise (some (.Call (.Name c np) [e] [] zf)) none pos) (x_8 c f js fe):=by
 intro zd s σ H D I q;obtain⟨H0,G0,G,Δ,O,E,q⟩:=q;obtain⟨G',O',sg,E'⟩:=E.gsome js;obtain⟨fI,fd,ps,oI,⟨nm,qn,N,bs,bm,sn,sub,ab,col,dd,k0,k1,k2,k3,k5,mN,lc,tl,hn,hi⟩,lI,hI,F,hb⟩:=M.made;have hB:bm.contains (.type "BaseException")=true:=av_3 (tl s.heap I.kIn);rw [arm_exec_Raise];have tD0:tD X.K EX fe σ H λv H1=>∃v' w G1,[v]= [v']/\fe (Bb (gsome js Δ))=.ok w/\Step G' H G1 H1/\Has X.K G1 v' w.d:=by
  refine⟨G',Bb (gsome js Δ),E'.st.gh,E'.gsh, ?_⟩;unfold x_8 at q;cases e1:fe (Bb (gsome js Δ)) with
  |ok w=>exact WP.intro λv G1 H1 st r=>⟨v,w,G1,rfl,rfl,st,r⟩
  |ex x=>rw [e1] at q;exact q σ G' H O' E' sg
  |no=>rw [e1] at q;exact q
 have mk:wpAny (model X.prog X.w) X.A (eval (.Call (.Name c np) [e] [] zf) X.env) (λv s1=>∃a t dx,v=.ref a/\s1.heap.get? C=some (excClassObj nm qn C N bs bm true sn sub ab col dd k0 k1 k2 k3 k5 "ValueError.__new__")/\
   s1.heap.get? a=some {cls:=.ref C,dict:=dx,data:=.fields #[.ref t,.none,.none,.none,.bool false,.none]}/\X.xe (.ref a) s1) X.xe s:=by
  refine wpAny_Call_Name_kw (w_9 I hg M.glob ?_ hdb);refine callWith_K (h₀:=X.base) I.ok.mod.kin M.kp (Bi (k_0 he w_4 hs zf zd s σ H (λvs H1=>∃v' w G1,vs= [v']/\fe (Bb (gsome js Δ))=.ok w/\Step G' H G1 H1/\Has X.K G1 v' w.d) I tD0) λus s1 ⟨vs,H1,I1,r,v,w,G1,ev,ew,st,hv⟩=>⟨I1.kIn, ?_⟩) hs hpl;subst ev;obtain⟨u,rfl,ru⟩:=r.one;refine cy_2 M hr.loose I1 ru λa d t s2 ha hd ne za I2=> ?_;have ga:=XE.get I2.hok Cs;refine⟨a,t,some d,rfl,I2.kIn _ _ lc,ga, ?_⟩;have I3:Inv X zd σ (upd H1 d (.xd [(f,v)])) s2:=Inv.forget I2 (by rw [Bm ne.symm];exact ha);refine l1 zd σ H1 _ s1 s2 a C (some d) _ _ I1 I3 ga rfl rfl rfl rfl (by rw [Bm ne.symm];exact ha) za ?_;have st2:Step G1 H1 (upd G1 d (.xd [(f,v)])) (upd H1 d (.xd [(f,v)])):=Step.new st.gh hd _;refine⟨⟨c,[f],[w.d]⟩,upd G1 d (.xd [(f,v)]),st2.gh,.with_ M.at_ Cs rfl (.cons (hv.mono st2.gg) .nil), ?_⟩;unfold x_8 at q;rw [ew] at q;exact q σ _ _ O' ((E'.grow st).grow st2) (sg.trans (st.gg.trans st2.gg))
 refine wpAny_bind (wpAny_standAt (bm_4 hB (hr.hd rfl) (wpAny_bind (wpAny_mono mk (λv s3 h3=>wpAny_bind (wpAny_standAt (wpAny_pure h3))) λ_ _ x=>x))))
end
section
variable{X:Cx}{zd:List (Addr×Obj)}{σ:Sg}{H:Hp}{s:Shared}
def ak_6{M:Model}{A:Around}{E:Value->Shared->Prop}{i:Nat}{n:Str}{Q:Unit->Shared->Prop}(I:Inv X zd σ H s)(hN:X.N.Nodup)(hi:X.N[i]? =some n)(hk:X.env.scope.names.lookup n=some .local)
  (h:∀s',Inv X zd (σ.set i none) H s'->Q () s'):wpAny M A (do bindName X.env n .none;unbindBehindTheSuite X.env n pos) Q E s:=by
 obtain⟨m,hn,hl⟩:=id I.loc;have bu:(X.env.scope.kind == .class || (X.env.scope.kind == .module && X.env.locals != X.env.globals))=false:=by rw [I.ok.kind];rfl
 have hiσ:i < σ.length:=by rw [I.len];exact(List.getElem?_eq_some_iff.mp hi).1
 have cne:=I.cne;have tracked:∀{a:Addr} {h':Heap},(∃o,s.heap.get? a=some o/\H a=none)->Heap.SameBut a s.heap h'->HOk X.prog X.w H h':=λ{a h'} ha hs b ob e=>by
  obtain⟨_,_,ao⟩:=ha;refine(I.hok b ob e).stay (λc w' hc q=>(hs.2 c ?_).trans q) (λ_ q=>q) λ_ _ q=>q
  rintro rfl
  rcases hc with rfl|hc
  ·rw [ao] at e;cases e
  ·rw [ao] at hc;cases hc
 refine wpAny_nameGoes_keeps hk hn bu λh' v hn' hs=> ?_;obtain⟨oL,_,_,hoL,_⟩:=id hn;refine h _ ⟨I.ok,I.os,I.bare,⟨λb o e n hb hx=> ?_,λb o e n hb hx=> ?_,I.base.free,λb o e hx=> ?_,I.base.tups,I.base.frzs,I.base.tbls⟩,⟨_,hn',λj y v' e1 e2 e3=> ?_⟩,λy c e=> ?_,I.free,I.freeC,λp hp=> ?_,tracked ⟨oL,hoL,I.free⟩ hs,by simpa using I.len⟩
 ·exact(hs.2 b (Nat.ne_of_lt (Nat.lt_of_lt_of_le (Heap.lt_size e) I.ok.above))).trans (I.base.keep b o e n hb hx)
 ·obtain⟨sl,e1⟩:=I.base.slot b o e n hb hx;exact⟨sl,(hs.2 b (Nat.ne_of_lt (Nat.lt_of_lt_of_le (Heap.lt_size e) I.ok.above))).trans e1⟩
 ·obtain⟨o',e1⟩:=I.base.there b o e hx;exact⟨o',(hs.2 b (Nat.ne_of_lt (Nat.lt_of_lt_of_le (Heap.lt_size e) I.ok.above))).trans e1⟩
 ·by_cases hj:j=i
  ·subst hj;rw [List.getElem?_set_self hiσ] at e2;cases e2
  ·rw [List.getElem?_set_ne (Ne.symm hj)] at e2;obtain⟨u',r',q⟩:=hl j y v' e1 e2 e3;refine⟨u',r', ?_⟩;rcases q with⟨k,e⟩|⟨k,c,e,z⟩
   ·refine .inl ⟨k, ?_⟩;have:y≠n:=λe=>hj (bc_4 hN e1 (e▸hi));simp [this,e]
   ·exact .inr ⟨k,c,e,z.sameBut hs (cne y c e)⟩
 ·obtain⟨w',z⟩:=I.cell y c e;exact⟨w',z.sameBut hs (cne y c e)⟩
 ·obtain⟨e,n,ne,nf,d⟩:=I.pin p hp;exact⟨(hs.2 p.1 ne).trans e,n,ne,nf,d⟩
def Inv.speak{H':Hp}{s':Shared}{a C:Addr}{dx:Option Addr}{us:Array Value}{sl:Array (Option Value)}(I:Inv X zd σ H s)(I':Inv X zd σ H' s')(za:s.heap.objs.size<=a)(e:s'.heap.get? a=some ⟨.ref C,dx,.fields us,sl⟩)(hn:H' a=none):Inv X zd σ (upd H' a (XO a C dx)) s':=by
 have B:=I'.base;have ns:∀b o,X.s₀.heap.get? b=some o->b≠a:=λb o q z=>absurd (Nat.lt_of_lt_of_le (Heap.lt_size q) (Nat.le_trans I.sz za)) (by rw [z];exact Nat.lt_irrefl _);have lt:∀b:Addr,b < s.heap.objs.size->b≠a:=λb h z=>absurd (Nat.lt_of_lt_of_le h za) (by rw [z];exact Nat.lt_irrefl _);have up:∀b u,H' b=some u->upd H' a (XO a C dx) b=some u:=λb u q=>by rw [Bm (Fz q hn)];exact q
 refine⟨I'.ok,I'.os,I'.bare,⟨B.keep,B.slot,λb o q n x=>by rw [Bm (ns b o q)];exact B.free b o q n x,B.there,λb xs q=>up _ _ (B.tups b xs q),λb o u q=>up _ _ (B.frzs b o u q),λb ps q=>let⟨m,z⟩:=B.tbls b ps q;⟨m,up _ _ z⟩⟩,I'.loc,I'.cell, ?_,λx c q=> ?_,λp hp=> ?_,λb u q=> ?_,I'.len⟩
 ·rw [Bm (lt _ I.lt)];exact I'.free
 ·obtain⟨v,hv⟩:=I.cell x c q;rw [Bm (lt _ hv.lt)];exact I'.freeC x c q
 ·obtain⟨p1,p2,p3⟩:=I'.pin p hp;exact⟨p1,by rw [Bm (lt _ (Heap.lt_size (I.pin p hp).1))];exact p2,p3⟩
 ·by_cases z:b=a
  ·subst z;rw [Cs] at q;cases q;exact XO.ok e
  ·rw [Bm z] at q;exact(I'.hok b u q).stay (λ_ _ _ q=>q) (λc q=>up _ _ q) λc xs q=>up _ _ q
end
def tryB(X:Cx)(zd:List (Addr×Obj))(W:Value->Shared->Prop):Cx:={X with pn:=X.pn ++ zd,xe:=W}
def hand(X:Cx)(e:Value):Cx:={X with A:=X.A.mark (some e),calm:=false,xe:=λ_ _=>False}
section
variable{X:Cx}{zd ak:List (Addr×Obj)}{σ:Sg}{H:Hp}{s:Shared}{W:Value->Shared->Prop}{e:Value}
def ok_tryB:(tryB X zd W).Ok↔X.Ok:=⟨λok=>⟨ok.mod,ok.kind,ok.glob,ok.blt,ok.above,ok.inj,ok.has,ok.cab,ok.hd,ok.frames,ok.stk,ok.exf,ok.bs,ok.bsz,ok.noex,ok.exfs,ok.funs,ok.frf⟩,
 λok=>⟨ok.mod,ok.kind,ok.glob,ok.blt,ok.above,ok.inj,ok.has,ok.cab,ok.hd,ok.frames,ok.stk,ok.exf,ok.bs,ok.bsz,ok.noex,ok.exfs,ok.funs,ok.frf⟩⟩
def Inv.toB(I:Inv X zd σ H s):Inv (tryB X zd W) [] σ H s:=⟨ok_tryB.mpr I.ok,I.os,I.bare,I.base,I.loc,I.cell,I.free,I.freeC,λp hp=>I.pin p (by have hp:p∈(X.pn ++ zd) ++ []:=hp;rwa [List.append_nil] at hp),I.hok,I.len⟩
def Inv.ofB(I:Inv (tryB X zd W) ak σ H s):Inv X zd σ H s:=⟨ok_tryB.mp I.ok,I.os,I.bare,I.base,I.loc,I.cell,I.free,I.freeC,λp hp=>I.pin p (List.mem_append_left _ hp),I.hok,I.len⟩
theorem SP.ofB{D:Ends}{f:Flow}(h:SP (tryB X zd W) ak D f s):SP X zd D f s:=by
 cases f with
 |next=>obtain⟨σ',H',I,q⟩:=h;exact⟨σ',H',Inv.ofB I,q⟩
 |brk=>obtain⟨σ',H',I,q⟩:=h;exact⟨σ',H',Inv.ofB I,q⟩
 |cont=>obtain⟨σ',H',I,q⟩:=h;exact⟨σ',H',Inv.ofB I,q⟩
 |ret u=>obtain⟨v,σ',H',I,r,q⟩:=h;exact⟨v,σ',H',Inv.ofB I,r,q⟩
def Inv.toH(I:Inv X zd σ H s):Inv (hand X e) zd σ H s:=
 ⟨⟨I.ok.mod,I.ok.kind,I.ok.glob,I.ok.blt,I.ok.above,I.ok.inj,I.ok.has,I.ok.cab,λz=>absurd z Bool.false_ne_true,I.ok.frames,I.ok.stk,I.ok.exf,I.ok.bs,I.ok.bsz,I.ok.noex,I.ok.exfs,I.ok.funs,I.ok.frf⟩,I.os,I.bare,I.base,I.loc,I.cell,I.free,I.freeC,I.pin,I.hok,I.len⟩
def Inv.ofH(ok:X.Ok)(I:Inv (hand X e) zd σ H s):Inv X zd σ H s:=⟨ok,I.os,I.bare,I.base,I.loc,I.cell,I.free,I.freeC,I.pin,I.hok,I.len⟩
end
def dw_4(i:Nat):Fl->Fl
 | .nx Δ=> .nx (Δ.set i .no)
 | .bk Δ=> .bk (Δ.set i .no)
 | .ct Δ=> .ct (Δ.set i .no)
 | .rt w=> .rt w
 |_=> .no
def Catches(K:Frag)(C2:Addr)(tb:List (Str×Bool)):Prop:=∀c b,tb.lookup c=some b->∀C,ClsAt K c C->exmOne K (.ref C) (.ref C2)=some b
def Ev.drop{H0:HB}{G0 G H:Hp}{σ:Sg}{Δ:SE}{O:OS}(E:Ev K H0 G0 G H σ Δ O)(i:Nat):Ev K H0 G0 G H (σ.set i none) (Δ.set i .no) O:=by
 refine⟨E.st,by rw [List.length_set,List.length_set];exact E.len,λj d e=> ?_,λj z d e zo=> ?_,E.out,E.dj,λj d e=> ?_,λj d e=> ?_⟩
 ·rcases Gj e with⟨rfl,q⟩|⟨n,q⟩
  ·cases q
  ·rw [List.getElem?_set_ne n];exact E.sh j d q
 ·rcases Gj e with⟨rfl,q⟩|⟨n,q⟩
  ·subst q;cases zo
  ·rw [List.getElem?_set_ne n];exact E.ow j z d q zo
 ·rcases Gj e with⟨rfl,q⟩|⟨n,q⟩
  ·cases q
  ·rw [List.getElem?_set_ne n];exact E.lk j d q
 ·rcases Gj e with⟨rfl,q⟩|⟨n,q⟩
  ·cases q
  ·rw [List.getElem?_set_ne n];exact E.lt j d q
section
variable{X:Cx}{EX:Bo}{i:Nat}{tb:List (Str×Bool)}{g h:FS}{c n:Str}{C2:Addr}{body ah:List Stmt}{b₀:Stmt}{np hp pos:Pos}
def Has.exc{G:Hp}{a C:Addr}{dx:Option Addr}{x:Xn}(hn:G a=none)(e:ExcAt K G (.ref C) dx x):Has K (upd G a (XO a C dx)) (.ref a) (.exn x.c x.ns x.vs):=by
 cases e with
 |bare hc=>exact .exn0 hc Cs
 |with_ hc hd hl r=>exact .exn1 hc Cs (by rw [Bm (Fz hd hn)];exact hd) hl (r.mono (o_0 hn _))
def dh_4{H0:HB}{G0 G1:Hp}{D:Ends}{r:Fl}(q:Fin K EX H0 G0 G1 D (dw_4 i r)):Fin K Du H0 G0 G1 {nx:=λ σ H=>D.nx (σ.set i none) H,rt:=D.rt,bk:=λ σ H=>D.bk (σ.set i none) H,ct:=λ σ H=>D.ct (σ.set i none) H} r:=by
 cases r with
 |nx Δ=>exact λ σ G H O E sg=>q _ G H O (E.drop i) sg
 |bk Δ=>exact λ σ G H O E sg=>q _ G H O (E.drop i) sg
 |ct Δ=>exact λ σ G H O E sg=>q _ G H O (E.drop i) sg
 |rt w=>exact q
 |ex x Δ=>exact q.elim
 |no=>exact q
end
structure XGet(K:Frag)(C:Addr)(f:Str):Prop where
 ga:findIn K (.ref C) "__getattribute__" =some (some (.builtin "BaseException.__getattribute__"))
 gt:findIn K (.ref C) "__getattr__" =some none
 be:mroIn K C (.type "BaseException")=some true
 hd:hasDictIn K C=true
 no:findIn K (.ref C) f=some none
section
variable{prog:Program}{w:World}{A:Around}{E:Value->Shared->Prop}{s:Shared}{K:Frag}{x C dx:Addr}{f:Str}
structure XInst(K:Frag)(C:Addr):Prop where
 ga:findIn K (.ref C) "__getattribute__" =some (some (.builtin "BaseException.__getattribute__"))
 gt:findIn K (.ref C) "__getattr__" =some none
 be:mroIn K C (.type "BaseException")=some true
 hd:hasDictIn K C=true
 cl:findIn K (.ref C) "__class__" =some (some (.builtin "object.__class__"))
 gs:specialIn K (.builtin "object.__class__") "__get__" =some (some (.builtin "getset_descriptor.__get__"))
 tk:takesIn K (.builtin "object.__class__")=some true
 ob:mroIn K C (.type "object")=some true
end
def eAttr(cs:List Str)(f:Str)(fo:FE):FE:=λ δ=>(fo δ).bind λw=>match w.d with
 | .exn c ns vs=>if cs.contains c=true then(match(ns.zip vs).lookup f with|some d=> .ok (.sh d)|none=> .no) else .no
 |_=> .no
section
variable{X:Cx}{EX:Bo}{o:Expr}{fo:FE}{f:Str}{cs:List Str}{pos:Pos}
end
def eIsC(tb:List (Str×Bool))(fo:FE):FE:=λ δ=>(fo δ).bind λw=>match w.d with
 | .exn c _ _=>(match tb.lookup c with|some b=> .ok (.sh (.bl b))|none=> .no)
 |_=> .no
section
variable{X:Cx}{EX:Bo}{zd:List (Addr×Obj)}{σ:Sg}{G H:Hp}{s:Shared}
variable{a:Expr}{fo:FE}{tb:List (Str×Bool)}{pp pos:Pos}
end
theorem RoomC.units{c:Bool}{k:Nat}{A:Around}(r:RoomC c k A):A.units + 64 < cLine:=by have:=r.un;omega
section
variable{X:Cx}{c:Bool}{k:Nat}{zd:List (Addr×Obj)}{W:Value->Shared->Prop}{e:Value}
def ar_4(h:RoomC c k (Cx.A X)):RoomC c k (Cx.A (tryB X zd W)):=h
def dh_5(h:Cx.calm X=true):Cx.calm (Cx.nox X)=true:=h
def Fv{cm:Bool}{w:World}{N:List Str}{qual:Str}{scope:Scope}{f:Addr}{cd:Value}{A:Around}{outer:List Env}{s:Shared}{E:XK}:
  PassesOwn (model P w) (Cx.A (cxN cm P w K mg base N qual scope f cd A outer s H E)) (Cx.env (cxN cm P w K mg base N qual scope f cd A outer s H E)) (Cx.xe (cxN cm P w K mg base N qual scope f cd A outer s H E)):=
 λe s' h=>wpAny_leaving_again (SameStack.refl _) h
def Catches.one{C2:Addr}{c:Str}{C:Addr}{b:Bool}(a:ClsAt K c C)(h:exmOne K (.ref C) (.ref C2)=some b){tb:List (Str×Bool)}(r:Catches K C2 tb):Catches K C2 ((c,b)::tb):=λc' b' e C' a'=>by
 rw [List.lookup_cons] at e;cases z:(c' ==c) with
 |true=>
  rw [z] at e;cases e;have:c'=c:=eq_of_beq z;subst this;unfold ClsAt at a a';rw [a] at a';cases a';exact h
 |false=>rw [z] at e;exact r c' b' e C' a'
def Catches.nil{C2:Addr}:Catches K C2 []:=λ_ _ e=>by cases e
end
structure Hd where
 i:Option Nat
 tb:List (Str×Bool)
 h:FS
def hdGo(d:Hd)(x:Xn)(Δ:SE):Fl:=match d.i with
 |some i=>dw_4 i (d.h (Δ.set i (.sh (.exn x.c x.ns x.vs))))
 |none=>(match d.h Δ with
  | .ex _ _=> .no
  |r=>r)
def tryH:List Hd->Xn->SE->Fl
 | [],_,_=> .no
 |d::r,x,Δ=>match d.tb.lookup x.c with
  |some true=>hdGo d x Δ
  |some false=>tryH r x Δ
  |none=> .no
def bf_2(g:FS)(hs:List Hd):FS:=λ Δ=>match g Δ with
 | .ex x Δ1=>tryH hs x Δ1
 |r=>r
inductive HOk3(X:Cx):List ExceptHandler->List Hd->Prop where
 |nil:HOk3 X [] []
 |as_ {c n:Str} {C2:Addr} {b₀:Stmt} {ah:List Stmt} {np hp:Pos} {i:Nat} {tb:List (Str×Bool)} {h:FS} {hs:List ExceptHandler} {ds:List Hd} (hc:X.mg c=some (.ref C2)) (ct:Catches X.K C2 tb) (hh:∀e,BD (hand X e) Du (b₀::ah) h) (r:HOk3 X hs ds)
   (hi:X.N[i]? =some n:=by rfl) (hk:X.env.scope.names.lookup n=some .local:=by rfl) (hg:Gl X c:=by rfl) (hdb:(c ==("__debug__" :Str))=false:=by decide):
   HOk3 X (.ExceptHandler (some (.Name c np)) (some n) (b₀::ah) hp::hs) (⟨some i,tb,h⟩::ds)
 |bare {c:Str} {C2:Addr} {b₀:Stmt} {ah:List Stmt} {np hp:Pos} {tb:List (Str×Bool)} {h:FS} {hs:List ExceptHandler} {ds:List Hd} (hc:X.mg c=some (.ref C2)) (ct:Catches X.K C2 tb) (hh:∀e,BD (hand X e) Du (b₀::ah) h) (r:HOk3 X hs ds)
   (hg:Gl X c:=by rfl) (hdb:(c ==("__debug__" :Str))=false:=by decide):
   HOk3 X (.ExceptHandler (some (.Name c np)) none (b₀::ah) hp::hs) (⟨none,tb,h⟩::ds)
def EXh(K:Frag)(EX:Bo)(D:Ends)(ds:List Hd):Bo:=λ σ=>⟨λx G H=>∃H0 G0 Δ O,Ev K H0 G0 G H σ Δ O/\Fin K EX H0 G0 G D (tryH ds x Δ),
 λ_ _ _ _ _ s ⟨H0,G0,Δ,O,E,f⟩=>⟨H0,G0,Δ,O,E.grow s,Fin.mono s.gg f⟩⟩
def ds_6{EX:Bo}{H0:HB}{G0 G1:Hp}{D:Ends}{r:Fl}(q:Fin K EX H0 G0 G1 D (match r with| .ex _ _=> .no|r=>r)):Fin K Du H0 G0 G1 {nx:=D.nx,rt:=D.rt,bk:=D.bk,ct:=D.ct} r:=by
 cases r with
 |nx Δ=>exact q
 |bk Δ=>exact q
 |ct Δ=>exact q
 |rt w=>exact q
 |ex x Δ=>exact q.elim
 |no=>exact q
section
variable{X:Cx}{EX:Bo}{g:FS}{body:List Stmt}{pos:Pos}
def cy_3(hN:X.N.Nodup){zd:List (Addr×Obj)}{D:Ends}{a C T2:Addr}{dx:Option Addr}{σ1 σ0:Sg}{H1 H2:Hp}{s1 s2:Shared}{h2:Heap}{x:Xn}{H0':HB}{G2 G0':Hp}{Δ1:SE}{O1:OS}{oa:Obj}{ua:Array Value}
  (J1:Inv X zd σ0 H1 s1) (J4:Inv X zd σ1 (upd H2 a (XO a C dx)) {s2 with heap:=h2}) (st4:Step G2 H2 (upd G2 a (XO a C dx)) (upd H2 a (XO a C dx)))
  (n1:H2 a=none) (sg2:Same G2 H2) (ea:ExcAt X.K G2 (.ref C) dx x) (LT:Looks (model X.prog X.w) h2 (typeOf (.ref a)) (.ref C)) (hcC:ClsAt X.K x.c C)
  (E1:Ev X.K H0' G0' G2 H2 σ1 Δ1 O1)
  (flt:∀{A:Around} {E:Value->Shared->Prop} {Q:Unit->Shared->Prop},(∀h3,Inv X zd σ1 (upd H2 a (XO a C dx)) {s2 with heap:=h3}->Q () {s2 with heap:=h3})->wpAny (model X.prog X.w) A (setFlight (.ref a) none) Q E {s2 with heap:=h2}):
  ∀{hs:List ExceptHandler} {ds:List Hd},HOk3 X hs ds->Fin X.K EX H0' G0' G2 D (tryH ds x Δ1)->wpAny (model X.prog X.w) X.A (handleBy (.ref a) X.env hs) (SP X zd D) X.xe {s2 with heap:=h2}:=by
 intro hs ds ho
 induction ho with
 |nil=>intro q;exact False.elim q
 |as_ hc ct hh r hi hk hg hdb ih=>
  rename_i c n C2 b₀ ah np hp i tb h hs ds;intro q;refine wpAny_handleBy_cons (codeAny_handlers_test ?_) (by intro z;cases z);refine w_9 (X:=hand X (.ref a)) (Inv.toH J4) hg hc ?_ hdb;unfold tryH at q;cases e2:tb.lookup x.c with
  |none=>simp only [e2] at q;exact q.elim
  |some b=>
   have em:=ct _ _ e2 C hcC;refine Looks.here (s:={s2 with heap:=h2}) (exm_one J4.kIn LT em) ?_;cases b with
   |false=>simp only [e2] at q;exact ih q
   |true=>
    simp only [e2,hdGo] at q;show codeAny _ _ _ _ _;refine codeAny_handlers_suite_as (flt λh3 J5=> ?_);refine bc_5 (X:=hand X (.ref a)) (v:=.ref a) (Inv.toH J5) hN hi (.inl hk) rfl (λs6 I6=> ?_) (.inr hk);have E6:=(E1.grow st4).put (i:=i) (Has.exc (sg2.free n1) ea);refine wpAny_mono (hh (.ref a) zd s6 _ _ _ I6 ⟨H0',G0',_,_,O1,E6,dh_4 (Fin.mono st4.gg q)⟩) (λf s7 h7=> ?_) λ_ _ z=>False.elim z;show wpAny _ X.A (do bindName X.env n .none;unbindBehindTheSuite X.env n hp) (λ_ s₃=>SP X zd D f s₃) _ s7;cases f with
    |next=>
     obtain⟨σ7,H7,I7,q7⟩:=h7;exact ak_6 (Inv.ofH J1.ok I7) hN hi hk λs8 I8=>⟨_,H7,I8,q7⟩
    |brk=>
     obtain⟨σ7,H7,I7,q7⟩:=h7;exact ak_6 (Inv.ofH J1.ok I7) hN hi hk λs8 I8=>⟨_,H7,I8,q7⟩
    |cont=>
     obtain⟨σ7,H7,I7,q7⟩:=h7;exact ak_6 (Inv.ofH J1.ok I7) hN hi hk λs8 I8=>⟨_,H7,I8,q7⟩
    |ret u=>
     obtain⟨v,σ7,H7,I7,r7,q7⟩:=h7;exact ak_6 (Inv.ofH J1.ok I7) hN hi hk λs8 I8=>⟨v,_,H7,I8,r7,q7⟩
 |bare hc ct hh r hg hdb ih=>
  rename_i c C2 b₀ ah np hp tb h hs ds;intro q;refine wpAny_handleBy_cons (codeAny_handlers_test ?_) (by intro z;cases z);refine w_9 (X:=hand X (.ref a)) (Inv.toH J4) hg hc ?_ hdb;unfold tryH at q;cases e2:tb.lookup x.c with
  |none=>simp only [e2] at q;exact q.elim
  |some b=>
   have em:=ct _ _ e2 C hcC;refine Looks.here (s:={s2 with heap:=h2}) (exm_one J4.kIn LT em) ?_;cases b with
   |false=>simp only [e2] at q;exact ih q
   |true=>
    simp only [e2,hdGo] at q;show codeAny _ _ _ _ _;refine codeAny_handlers_suite (flt λh3 J5=> ?_);have E6:=E1.grow st4;refine wpAny_mono (hh (.ref a) zd {s2 with heap:=h3} _ _ _ (Inv.toH J5) ⟨H0',G0',_,_,O1,E6,ds_6 (Fin.mono st4.gg q)⟩) (λf s7 h7=> ?_) λ_ _ z=>False.elim z;cases f with
    |next=>
     obtain⟨σ7,H7,I7,q7⟩:=h7;exact⟨_,H7,Inv.ofH J1.ok I7,q7⟩
    |brk=>
     obtain⟨σ7,H7,I7,q7⟩:=h7;exact⟨_,H7,Inv.ofH J1.ok I7,q7⟩
    |cont=>
     obtain⟨σ7,H7,I7,q7⟩:=h7;exact⟨_,H7,Inv.ofH J1.ok I7,q7⟩
    |ret u=>
     obtain⟨v,σ7,H7,I7,r7,q7⟩:=h7;exact⟨v,_,H7,Inv.ofH J1.ok I7,r7,q7⟩
def ds_7{hd0:ExceptHandler}{hs0:List ExceptHandler}{ds:List Hd}(hN:X.N.Nodup)(hfr:X.env.frame=some X.env.locals)(hst:X.stack=X.env::X.outer)(hb:∀zd W EXB,Lk (tryB X zd W) EXB->BD (tryB X zd W) EXB body g)(ho:HOk3 X (hd0::hs0) ds):
  SD X EX (.Try body (hd0::hs0) [] [] pos) (bf_2 g ds):=by
 intro zd s σ H D I q;obtain⟨H0,G0,G,Δ,O,E,q⟩:=q;refine wpAny_Try_except ?_;have lk:Lk (tryB X zd λe s₁=>wpAny (model X.prog X.w) X.A (noteFrame e X.env) (λ_ s₂=>wpAny (model X.prog X.w) X.A (setFlight e none) (λ_ s₃=>wpAny (model X.prog X.w) X.A (handleBy e X.env (hd0::hs0)) (SP X zd D) X.xe s₃) X.xe s₂) X.xe s₁) (EXh X.K EX D ds):=by
  intro ak σ1 H1 s1 e s2 I1 cx;obtain⟨a,C,dx,T,H2,rfl,I2,tr,n1,n2,z1,z2,x,G2,sg2,ea,H0',G0',Δ1,O1,E1,f1⟩:=Inv.raised I1 cx;show wpAny _ X.A (noteFrame (.ref a) X.env) _ _ s2;have J1:=Inv.ofB I1;have J2:=Inv.ofB I2;refine bm_3 (outer:=X.outer) (by rw [<-hst];exact J2.ok.frames) (by rw [<-hst];exact J2.stack) hfr tr λh1 T2 z3 k1 t1=> ?_;refine z_2 t1 λh2 k2 t2=> ?_;have zT2:H2 T2=none:=J2.hok.fresh z3;have J3:Inv X zd σ1 H2 {s2 with heap:=h2}:=by
   refine Inv.settle (ch:=[a,T] ++ [T2]) J1 J2 (λb hb=> ?_) ?_
   ·have:b=a\/b=T\/b=T2:=by simpa using hb
    rcases this with rfl|rfl|rfl
    ·exact⟨z1,n1⟩
    ·exact⟨z2,n2⟩
    ·exact⟨Nat.le_trans z1 (Nat.le_trans (Nat.le_of_lt (Heap.lt_size tr.ob.choose_spec.choose_spec.1)) z3),zT2⟩
   ·rw [hst];exact k1.trans (KeepX.of_same k2)
  obtain⟨⟨oa,ua,ga,gc,gd,gf,g1⟩,ne,tbk⟩:=id t2;have goa:h2.get? a=some ⟨.ref C,dx,.fields ua,oa.slots⟩:=by
   obtain⟨c1,d1,e1,s1⟩:=oa;simp only at gc gd gf;subst gc gd gf;exact ga
  have J4:Inv X zd σ1 (upd H2 a (XO a C dx)) {s2 with heap:=h2}:=Inv.speak J1 J3 z1 goa n1;have st4:Step G2 H2 (upd G2 a (XO a C dx)) (upd H2 a (XO a C dx)):=Step.new sg2 n1 _;have LT:Looks (model X.prog X.w) h2 (typeOf (.ref a)) (.ref C):=gc▸(Looks.ld ga).andThen .now;obtain⟨hcC⟩:Nonempty (ClsAt X.K x.c C):=by cases ea with|bare hc=>exact⟨hc⟩|with_ hc _ _ _=>exact⟨hc⟩
  refine cy_3 (oa:=oa) (ua:=ua) (T2:=T2) hN J1 J4 st4 n1 sg2 ea LT hcC E1 (λ{A E Q} hq=> ?_) ho f1;refine z_2 t2 λh3 k3 t3=>hq h3 ?_;refine Inv.settle (ch:=[T2]) (s':={s2 with heap:=h2}) J1 J4 (λb hb=> ?_) (KeepX.of_same k3);have:b=T2:=by simpa using hb
  subst this;exact⟨Nat.le_trans z1 (Nat.le_trans (Nat.le_of_lt (Heap.lt_size tr.ob.choose_spec.choose_spec.1)) z3),by rw [Bm ne];exact zT2⟩
 refine wpAny_mono (hb zd _ _ lk [] s σ H D (Inv.toB I) ⟨H0,G0,G,Δ,O,E, ?_⟩) (λf s1 hs=> ?_) λ_ _ z=>z
 ·unfold bf_2 at q;cases e1:g Δ with
  |ex x Δ1=>
   rw [e1] at q;exact λ σ1 G1 H1 O1 E1 sg=>⟨H0,G0,Δ1,O1,E1,Fin.mono sg q⟩
  |nx Δ1=>rw [e1] at q;exact q
  |bk Δ1=>rw [e1] at q;exact q
  |ct Δ1=>rw [e1] at q;exact q
  |rt w=>rw [e1] at q;exact q
  |no=>rw [e1] at q;exact q
 ·have hs':=SP.ofB hs;cases f with
  |next=>exact wpAny_execs_nil hs'
  |brk=>exact hs'
  |cont=>exact hs'
  |ret u=>exact hs'
end
section
variable{prog:Program}{w:World}{A:Around}{E:Value->Shared->Prop}{h:Heap}{g:Array GenState}{d:Drawn}{t:Nat}{os:OsState}
variable{nm q:Str}{C N:Addr}{bs bm bmB:List Value}{az:Bool}{sn:List Str}{sub:List Value}{ab:Bool}{col:Option Bool}{dd:Option Addr}{k0 k1 k2 k3 k5:Option Value}{B newId ai:String}
def cm_9(FB:ExcBaseFacts B newId ai bmB)(T:OwnTail h bmB bm){mN:Str->Option Value}{Q:PySem.Fin->Shared->Prop}
  (hC:h.get? C=some (excClassObj nm q C N bs bm az sn sub ab col dd k0 k1 k2 k3 k5 newId)) (hn:h.Ns N mN) (hi:mN "__init__" =none)
  (z:∀h' e,Heap.MadeExcOf h h' e (.ref C) []->h.objs.size<=e->Q (.done (.ret (.ref e))) ⟨h',g,d,t,os⟩):
  wpAny (model prog w) A (Builtin.«type.__call__» ⟨[.ref C],[]⟩) Q E ⟨h,g,d,t,os⟩:=by
 wp_walk using wpAny_loadPart_at hC,wpAny_madeBy_exc hC
 refine codeAny_call_builtin_code (Code.quiet_builtin _ FB.quiet) (wpAny_check_new_subT FB T hC ?_);refine codeAny_exc_new_subT FB T hC ?_ (by show 0<=sizeLine;exact Nat.zero_le _);show wpAny _ _ _ _ _ _;generalize e1:({cls:=.type "tuple",data:=.seq ([]:List Value).toArray}:Obj)=o1;generalize e2:({cls:=.ref C,data:=.fields #[.ref h.objs.size,.none,.none,.none,.bool false,.none]}:Obj)=o2;have up:∀b o,h.get? b=some o->((h.push o1).push o2).get? b=some o:=λb o e=>Heap.get?_push_of_some _ (Heap.get?_push_of_some _ e);have ge:((h.push o1).push o2).get? (h.objs.size + 1)=some o2:=by
  have:=Heap.get?_push_size (h.push o1) (o:=o2) (by rw [<-e2];rfl)
  rwa [Heap.size_push] at this
 have hC1:=up _ _ hC;have hn1:((h.push o1).push o2).Ns N mN:=hn.keeps up;have T1:=T.keeps up;have cl:o2.cls=.ref C:=by rw [<-e2]
 have hcC:List.contains (Value.ref C::bm) (.ref C)=true:=List.contains_iff_mem.mpr (.head _);unfold isInstance
 repeat (first|(with_reducible refine wpAny_loadPart_at ge ?_;rw [cl])|(with_reducible refine wpAny_isSubtype_exc hC1 ?_;rw [hcC])|wp_step)
 show wpAny _ _ (typeLookup (.ref C) _) _ _ _;refine wpAny_typeLookup_tail hC1 hn1 T1 FB.mroIs FB.init.lookup ?_;rw [hi];refine wpAny_holding (wpAny_bind (wpAny_of_eq (FB.init.bind _) ?_));refine wpAny_bind (wpAny_call (codeAny_call_builtin FB.init.plain FB.initEntry (wpAny_check_init_subT FB T1 hC1 ge cl ?_)));subst e1 e2
 wp_walk
 refine z _ (h.objs.size + 1) ⟨λb o hb=> ?_,Heap.get?_none_of_le (Nat.le_succ _),h.objs.size + 2, ?_,Heap.get?_none_of_le (by omega), ?_⟩ (Nat.le_succ _)
 ·rw [Heap.get?_update_other _ _ (Ne.symm (Nat.ne_of_lt (Nat.lt_succ_of_lt (Heap.lt_size hb))))];exact Heap.get?_push_of_some _ (up b o hb)
 ·rw [Heap.get?_update_self _ (Heap.get?_push_of_some _ ge) rfl,Heap.size_push,Heap.size_push];rfl
 ·rw [Heap.get?_update_other _ _ (Nat.ne_of_lt (Nat.lt_succ_self (h.objs.size + 1)))];exact Heap.get?_push_at (by rw [Heap.size_push,Heap.size_push]) rfl
def cy_4(FB:ExcBaseFacts B newId ai bmB)(T:OwnTail h bmB bm){mN:Str->Option Value}{Q:Value->Shared->Prop}
  (hC:h.get? C=some (excClassObj nm q C N bs bm az sn sub ab col dd k0 k1 k2 k3 k5 newId)) (hn:h.Ns N mN) (hi:mN "__init__" =none)
  (z:∀h' e,Heap.MadeExcOf h h' e (.ref C) []->h.objs.size<=e->Q (.ref e) ⟨h',g,d,t,os⟩):
  wpAny (model prog w) A (call (.ref C) []) Q E ⟨h,g,d,t,os⟩:=by
 have f1:=tc_lookup;have f2:=tc_bind (.ref C);have De:Shared.TypeIs ⟨h,g,d,t,os⟩ (.ref C) "type" :=⟨_,hC,rfl⟩;refine wpAny_call (codeAny_of_tree (?_:wpAny _ _ (callAny (.ref C) _) _ _ _))
 wp_walk using wpAny_loadPart_at hC
 refine⟨rfl, ?_⟩;exact codeAny_call_builtin_at (Code.quiet_builtin _ (by decide +kernel)) entry_typeCall (wpAny_check_type_call_sub hC (cm_9 FB T hC hn hi z))
end
def XMk0(K:Frag)(C:Addr):Prop:=∃(nm q:Str) (N:Addr) (bs bm:List Value) (sn:List Str) (sub:List Value) (ab:Bool) (col:Option Bool) (dd:Option Addr) (k0 k1 k2 k3 k5:Option Value) (mN:Str->Option Value),
 K.lookup C=some (excClassObj nm q C N bs bm true sn sub ab col dd k0 k1 k2 k3 k5 "ValueError.__new__")/\(∀h:Heap,K.In h->OwnTail h bmVE bm)/\(∀h:Heap,K.In h->h.Ns N mN)/\mN "__init__" =none
def ds_9{C N L:Addr}{nm q:Str}{bs:List Value}{sn:List Str}{sub:List Value}{ab:Bool}{col:Option Bool}{dd:Option Addr}{k0 k1 k2 k3 k5:Option Value}{oc c0 oL:Value}{od ddL odL:Option Addr}{es esL:Array DictEntry}{ep epL:Nat}{sl sl0 slL:Array (Option Value)}{cd:ClassData}
  (lc:K.lookup C=some (excClassObj nm q C N bs (.ref L::bmVE) true sn sub ab col dd k0 k1 k2 k3 k5 "ValueError.__new__")) (ln:K.lookup N=some ⟨oc,od,.dict es ep,sl⟩) (kn:q_6 es=true) (hi:nsFind es "__init__" =none)
  (ll:K.lookup L=some ⟨c0,ddL,.cls cd,sl0⟩) (lm:K.lookup cd.ns=some ⟨oL,odL,.dict esL epL,slL⟩) (km:q_6 esL=true) (hL:nsFind esL "__init__" =none):XMk0 K C:=
 ⟨nm,q,N,bs,_,sn,sub,ab,col,dd,k0,k1,k2,k3,k5,nsFind es,lc,λh X=> .own (X _ _ ll) (cs_1 lm km X) hL .base,λh X=>cs_1 ln kn X,hi⟩
structure XC0(K:Frag)(mg:Str->Option Value)(c:Str)(C:Addr):Prop where
 at_:ClsAt K c C
 glob:mg c=some (.ref C)
 kp:keepIn K (.ref C)=true
 made:XMk0 K C
def bu_7(c:Str):FS:=λ Δ=> .ex ⟨c,[],[]⟩ Δ
section
variable{X:Cx}{C:Addr}{c:Str}
def bo_1{EX:Bo}{np zf pos:Pos}(M:XC0 X.K X.mg c C)(hr:RoomC true 2 X.A)(l1:Lk1 X EX)(hg:Gl X c:=by rfl)(hdb:(c ==("__debug__" :Str))=false:=by decide):
  SD X EX (.Raise (some (.Call (.Name c np) [] [] zf)) none pos) (bu_7 c):=by
 intro zd s σ H D I q;obtain⟨H0,G0,G,Δ,O,E,q⟩:=q;obtain⟨nm,qn,N,bs,bm,sn,sub,ab,col,dd,k0,k1,k2,k3,k5,mN,lc,tl,hn,hi⟩:=M.made;have hB:bm.contains (.type "BaseException")=true:=av_3 (tl s.heap I.kIn);rw [arm_exec_Raise];have mk:wpAny (model X.prog X.w) X.A (eval (.Call (.Name c np) [] [] zf) X.env) (λv s1=>∃a t dx,v=.ref a/\s1.heap.get? C=some (excClassObj nm qn C N bs bm true sn sub ab col dd k0 k1 k2 k3 k5 "ValueError.__new__")/\
   s1.heap.get? a=some {cls:=.ref C,dict:=dx,data:=.fields #[.ref t,.none,.none,.none,.bool false,.none]}/\X.xe (.ref a) s1) X.xe s:=by
  refine wpAny_Call_Name_kw (w_9 I hg M.glob ?_ hdb);refine callWith_K0 I.kIn M.kp ?_;have KX:=I.kIn;obtain⟨hh,gg,dr,tk,os⟩:=s;refine cy_4 PySem.F.excBase_ValueError (tl hh KX) (KX _ _ lc) (hn hh KX) hi λh' a me za=> ?_;obtain⟨kk,new,t,et,_,_⟩:=me;have I2:Inv X zd σ H ⟨h',gg,dr,tk,os⟩:=I.kept (h':=h') (t':=tk) kk;refine⟨a,t,none,rfl,I2.kIn _ _ lc,et, ?_⟩;exact l1 zd σ H H ⟨hh,gg,dr,tk,os⟩ ⟨h',gg,dr,tk,os⟩ a C none _ _ I I2 et rfl rfl rfl rfl (I.hok.fresh za) za ⟨⟨c,[],[]⟩,G,E.st.gh,.bare M.at_,q σ G H O E (Same.refl _)⟩
 refine wpAny_bind (wpAny_standAt (bm_4 hB (hr.hd rfl) (wpAny_bind (wpAny_mono mk (λv s3 h3=>wpAny_bind (wpAny_standAt (wpAny_pure h3))) λ_ _ x=>x))))
end
end L3
namespace L3
open PySem L2
variable{K:Frag}{fd:FuncData}{mg:Str->Option Value}{P:Program}{vs:List V}{us:List Value}{base:Heap}{H:Hp}{X:Cx}{pos:Pos}{v:V}
abbrev Ai{a b:Prop}(x:a)(y:b):a/\b:=⟨x,y⟩
def Am:=Ai @Ag.eq_1 (Ai @Az.eq_1 (Ai @Af.eq_1 (Ai @Ah.eq_1 (Ai @gsome.eq_1 (Ai @give1.eq_1 (Ai @List.foldl_cons.{0,0} (Ai @List.foldl_nil.{0,0} (Ai @An.eq_1 (Ai @Cd.eq_1 (Ai @Bw.eq_1 (Ai @Cj.eq_1 (Ai @Bg.eq_1 (Ai @Bb.eq_1 (Ai @As.eq_1 (Ai @gall.eq_1 (Ai @cm_1 (Ai @dh_1 (Ai @dh_2 (Ai @cm_2 (Ai @ec_7 (Ai @ec_8 (Ai @ds_0 (Ai @ds_1 (Ai @ds_2 (Ai @Ak.eq_1 (Ai @Ab.eq_1 (Ai @eC.eq_1 (Ai @Ao.eq_1 (Ai @Bn.eq_1 (Ai @Ce.eq_1 (Ai @Ce.eq_2 (Ai @Ce.eq_3 (Ai @Ce.eq_4 (Ai @Ce.eq_5 (Ai @Ce.eq_6 (Ai @Ce.eq_7 (Ai @Dn.eq_1 (Ai @Dn.eq_2 (Ai @Aj.eq_1 (Ai @Ap.eq_1 (Ai @R.calm_ok (Ai @R.calm_no (Ai @R.calm_ex (Ai @Dw.eq_1 (Ai @Dw.eq_2 (Ai @Dw.eq_3 (Ai @Dw.eq_4 (Ai @Dw.eq_5 (Ai @eAttr.eq_1 (Ai @eIsC.eq_1 (Ai @isND.eq_1 (Ai @isND.eq_2 (Ai @nonB.eq_1 (Ai @nonB.eq_2 (Ai @Ac.eq_1 (Ai @Aa.eq_1 (Ai @eTup.eq_1 (Ai @Dh.eq_1 (Ai @eIf.eq_1 (Ai @eAnd.eq_1 (Ai @eOr.eq_1 (Ai @eNot.eq_1 (Ai @Eo.eq_1 (Ai @tOrF.eq_1 (Ai @Fq.eq_1 (Ai @eIs.eq_1 (Ai @cd_1 (Ai @cm_4 (Ai @cd_2 (Ai @cd_3 (Ai @cd_4 (Ai @cd_5 (Ai @bt_5 (Ai @cd_6 (Ai @bt_6 (Ai @bt_7 (Ai @bt_8 (Ai @bt_9 (Ai @cd_7 (Ai @cm_5 (Ai @cd_8 (Ai @cd_9 (Ai @ce_0 (Ai @ce_1 (Ai @bu_0 (Ai @ce_2 (Ai @bu_1 (Ai @bu_2 (Ai @bu_3 (Ai @bu_4 (Ai @bj_6 (Ai @bu_5 (Ai @bj_7 (Ai @bj_8 (Ai @bj_9 (Ai @bk_0 (Ai @eSlice.eq_1 (Ai @oNone.eq_1 (Ai @Gu.eq_1 (Ai @intPart.eq_1 (Ai @intPart.eq_2 (Ai @Gv.eq_1 (Ai @eMeth0.eq_1 (Ai @tyD.eq_1 (Ai @tyD.eq_2 (Ai @tyD.eq_3 (Ai @tyD.eq_4 (Ai @Av.eq_1 (Ai @Cr.eq_1 (Ai @Ff.eq_1 (Ai @Ff.eq_2 (Ai @Ff.eq_3 (Ai @Ff.eq_4 (Ai @R.bind_ok (Ai @R.bind_no (Ai @R.bind_ex (Ai @W.d_sh (Ai @W.d_ow (Ai @List.map_cons.{0,0} (Ai @List.map_nil.{0,0} (Ai @List.cons_append.{0} (Ai @List.nil_append.{0} (Ai @List.append_nil.{0} (Ai @List.replicate_succ.{0} (Ai @List.replicate_zero.{0} (Ai @List.length_cons.{0} (Ai @List.length_nil.{0} (Ai @List.set_cons_zero.{0} (Ai @List.set_cons_succ.{0} (Ai @List.getElem?_cons_zero.{0} (Ai @List.getElem?_cons_succ.{0} (Ai @if_true.{1} (Ai @if_false.{1} (Ai @Bc.eq_1 (Ai @Bc.eq_2 (Ai @Bc.eq_3 (Ai @Bc.eq_4 (Ai @Bc.eq_5 (Ai @Bool.false_eq_true (Ai @Bool.not_true (Ai @Bool.not_false (Ai @Bool.true_and (Ai @Bool.false_and (Ai @Nat.zero_add (Ai @decide_true (Ai @decide_false (Ai @gC.eq_1 (@gV.eq_1))))))))))))))))))))))))))))))))))))))))))))))))))))))))))))))))))))))))))))))))))))))))))))))))))))))))))))))))))))))))))))))))))))))))))))))))))))
end L3
namespace L3
open PySem PySem.Spec PyProof.Rows L2
variable{K:Frag}{fd:FuncData}{mg:Str->Option Value}{P:Program}{vs:List V}{us:List Value}{base:Heap}{H:Hp}{X:Cx}{pos:Pos}{v:V}
abbrev HBd(c:Bool)(P:Program)(w:World)(K:Frag)(mg:Str->Option Value)(base:Heap)(N:List Str)(qual:Str)(st:Stmt)(f:Addr)(k:Nat)(g:FS):Prop:=∀{zq:Value} {A:Around} {outer:List Env} {s:Shared} {H:Hp} {E:XK},(cxN c P w K mg base N qual (Ck st) f zq A outer s H E).calm=c->RoomC c k (Cx.A (cxN c P w K mg base N qual (Ck st) f zq A outer s H E))->(Cx.A (cxN c P w K mg base N qual (Ck st) f zq A outer s H E)).units + 64 < cLine->N.Nodup->Lk (cxN c P w K mg base N qual (Ck st) f zq A outer s H E) (λ_=>EXof K E)->
   BD (cxN c P w K mg base N qual (Ck st) f zq A outer s H E) (λ_=>EXof K E) (Fc st) g
def Bl{c:Bool}{w:World}{x qual:Str}{st:Stmt}{f:Addr}{N ps:List Str}{k:Nat}{g:FS}(F:Fun K x qual st f fd)
  (zk:HBd c P w K mg base N qual st f k g) (S:FnScope N ps (Ck st):=by exact⟨rfl,rfl,rfl,by decide +kernel,rfl,by decide +kernel,by decide +kernel⟩):FnX P w K mg base c (k + 1) f fd ps (Bh K ps.length (Ag N.length g)):=
 fn_D F S λzq A outer s H E hr=>zk rfl hr (RoomC.units hr) S.nd cl_0
def ej_0{c:Bool}{w:World}{x qual:Str}{st:Stmt}{f:Addr}{N ps:List Str}{k n:Nat}{g:FS}(F:Fun K x qual st f fd)(hn:ps.length=n + 1)(hle:ps.length<=N.length)
  (zk:HBd c P w K mg base N qual st f k g) (S:FnScope N ps (Ck st):=by exact⟨rfl,rfl,rfl,by decide +kernel,rfl,by decide +kernel,by decide +kernel⟩):FnX P w K mg base c (k + 1) f fd ps (spM K n (cc_3 N.length g)):=
 fn_M F S hn hle λzq A outer s H E hr=>zk rfl hr (RoomC.units hr) S.nd cl_0
def Ft{c:Bool}{w:World}{x qual cn:Str}{st:Stmt}{f C:Addr}{N ps:List Str}{k n:Nat}{g:FS}(F:Fun K x qual st f fd)(hC:ClsAt K cn C)(hn:ps.length=n + 1)(hle:ps.length<=N.length)
  (zk:HBd c P w K mg base N qual st f k g) (S:FnScope N ps (Ck st):=by exact⟨rfl,rfl,rfl,by decide +kernel,rfl,by decide +kernel,by decide +kernel⟩):FnX P w K mg base c (k + 1) f fd ps (spI K C n (Fw N.length cn g)):=
 fn_I F S hC hn hle λzq A outer s H E hr=>zk rfl hr (RoomC.units hr) S.nd cl_0
def FnAt(K:Frag)(x qual:Str)(st:Stmt)(f:Addr):Prop:=∃fd,Fun K x qual st f fd
def FnAt.mk{x qual:Str}{st:Stmt}{f:Addr}{oc kV dc pm cd ct:Value}{od an:Option Addr}{sl:Array (Option Value)}
  (l:K.lookup f=some ⟨oc,od,.func (fnOf x qual (k_1 st) (Fc st) (Ck st) .none kV dc pm an cd ct),sl⟩) (c:codeIn K cd qual=true) (k:keepIn K (.ref f)=true):FnAt K x qual st f:=⟨_,ck_0 l c k⟩
def FnTop(K:Frag)(x:Str)(st:Stmt):Prop:=∃f,nsIn K mainGlobals x=some (some (.ref f))/\FnAt K x x st f
theorem FnTop.mk{x:Str}{st:Stmt}{f:Addr}{oc kV dc pm cd ct:Value}{od an:Option Addr}{sl:Array (Option Value)}(a:nsIn K mainGlobals x=some (some (.ref f)))
  (l:K.lookup f=some ⟨oc,od,.func (fnOf x x (k_1 st) (Fc st) (Ck st) .none kV dc pm an cd ct),sl⟩) (c:codeIn K cd x=true) (k:keepIn K (.ref f)=true):FnTop K x st:=⟨f,a,FnAt.mk l c k⟩
def FnMet(K:Frag)(C:Addr)(x qual:Str)(st:Stmt):Prop:=∃f,findIn K (.ref C) x=some (some (.ref f))/\FnAt K x qual st f/\keepIn K (.ref f)=true/\isFn K (.ref f)=true
theorem FnMet.mk{C:Addr}{x qual:Str}{st:Stmt}{f:Addr}{oc kV dc pm cd ct:Value}{od an:Option Addr}{sl:Array (Option Value)}(a:findIn K (.ref C) x=some (some (.ref f)))
  (l:K.lookup f=some ⟨oc,od,.func (fnOf x qual (k_1 st) (Fc st) (Ck st) .none kV dc pm an cd ct),sl⟩) (c:codeIn K cd qual=true) (k:keepIn K (.ref f)=true) (i:isFn K (.ref f)=true):FnMet K C x qual st:=⟨f,a,FnAt.mk l c k,k,i⟩
def Gn{EX:Bo}{i:Nat}{x:Str}(hN:decide X.N.Nodup=true:=by rfl')(hi:X.N[i]? =some x:=by rfl)(hx:Loc X.env.scope x:=by first|exact Or.inl rfl|exact Or.inr rfl)
  (hf:X.fn x=true\/X.env.scope.names.lookup x=some .local:=by first|exact .inl rfl|exact .inr rfl|assumption):GC X EX (.Name x pos) (gC i):=dp_6 (of_decide_eq_true hN) hi hx hf
structure BaseI(K:Frag)(B f:Addr):Prop where
 sp:specialIn K (.ref B) "__getattribute__" =some (some (.builtin "type.__getattribute__"))
 rd:readsIn K B (.type "type")=true
 at_:findCls K (.ref B) (.type "type") "__init__" =some (.val (.ref f))
 kp:keepIn K (.ref f)=true
def MakB(P:Program)(w:World)(K:Frag)(mg:Str->Option Value)(base:Heap)(cc:Bool)(b c:Str)(k n:Nat)(F:List D->R (List Str×List D)):Prop:=
 ∃B C f fd ps,ClsAt K c C/\mg b=some (.ref B)/\BaseI K B f/\FnX P w K mg base cc k f fd ps (spI K C n F)/\Binds K fd ps []
def ai_2(i:Nat)(c:Str)(js:List Nat)(F:List D->R (List Str×List D))(fe:FE):FS:=λ Δ=>match(gsome js Δ)[i]? with
 |some (.lt (.obj c' [] []))=>if c'=c then(match fe (Bb (gsome js Δ)) with
  | .ok w=>(match F [w.d] with
   | .ok p=> .nx ((gsome js Δ).set i (.lt (.obj c p.1 (p.2.map .sh))))
   |_=> .no)
  | .ex x=> .ex x (gsome js Δ)
  | .no=> .no) else .no
 |_=> .no
section
variable{X:Cx}{EX:Bo}{e:Expr}{es:List Expr}{x:Str}{pp zh pos:Pos}{cc:Bool}{k k' n:Nat}{ps:List Str}
def dh_7{sp:Sp}{t:TA}{B f:Addr}{pl:Sem Bool}(b:BaseI X.K B f)(hr:RoomC cc k X.A)(lk:Lk X EX)(ok:FnX X.prog X.w X.K X.mg X.base cc k f fd ps sp)(hb:Binds X.K fd ps [])(hm:X.mg x=some (.ref B))(hg:Gl X x)(hdb:(x ==("__debug__" :Str))=false)(ha:PA X (e::es) t)
  (hst:starEach (e::es) X.env=(false,eval e X.env)::starEach es X.env) (hpl:(backTo pos (starEach es X.env)).any (·.1)=false)
  (ht:eval (.Call (.Attribute (.Name x pp) "__init__" zh) (e::es) [] pos) X.env=(do
   let ov<-eval (.Name x pp) X.env
   standAt zh.atName
   let(f,first)<-holding [ov] (getMethod ov "__init__" pl)
   callWith pos f first (backTo pos (starEach (e::es) X.env)) (backToKw pos (keywordEach [] X.env)))):
  PE X (.Call (.Attribute (.Name x pp) "__init__" zh) (e::es) [] pos) (λ σ H Q=>t σ H λvs H1=>sp vs H1 Q (EXE X.K (EX σ))):=by
 intro zd s σ H Q I q;refine methodCall_KW (pl:=pl) (w_9 I hg hm ?_ hdb) ht;refine method_cls I.kIn b.sp (cls_value I.kIn b.rd b.at_ rfl ?_);refine callWith_K (first:=[]) (h₀:=X.base) I.ok.mod.kin b.kp (Bi (ha pos zd _ σ H _ (I.tok _) q) λus s1 ⟨vs,H1,I1,r,q⟩=>⟨I1.kIn, ?_⟩) hst hpl;exact aq_8 ok hr hb lk I1 r q
def ce_6{i:Nat}{c y:Str}(js:List Nat){fe:FE}{F:List D->R (List Str×List D)}{p3 bg:Pos}{pl:Sem Bool}(hr:RoomC cc k' X.A)(lk:Lk X EX)(h:MakB X.prog X.w X.K X.mg X.base cc x c k 1 F)(he:ED X EX e fe)(hk:k<=k':=by decide)
  (hN:X.N[i]? =some y:=by rfl) (hv:Vis X.env.scope y:=by first|exact Or.inl rfl|exact Or.inr (Or.inl rfl)|exact Or.inr (Or.inr rfl)) (hd:(y ==("__debug__" :Str))=false:=by decide) (hcd:(y ==("__classdict__" :Str))=false:=by decide)
  (hg:Gl X x:=by rfl) (hdb:(x ==("__debug__" :Str))=false:=by decide) (hs1:starEach [.Name y p3,e] X.env=(false,eval (.Name y p3) X.env)::starEach [e] X.env:=by rfl) (hs2:starEach [e] X.env=(false,eval e X.env)::starEach [] X.env:=by rfl)
  (hpl:(backTo pos (starEach [e] X.env)).any (·.1)=false:=by rfl) (cu:swapsWith (.Call (.Attribute (.Name x pp) "__init__" zh) [.Name y p3,e] [] pos) none bg.line X.env=pure false:=by rfl)
  (ht:eval (.Call (.Attribute (.Name x pp) "__init__" zh) [.Name y p3,e] [] pos) X.env=(do
   let ov<-eval (.Name x pp) X.env
   standAt zh.atName
   let(f,first)<-holding [ov] (getMethod ov "__init__" pl)
   callWith pos f first (backTo pos (starEach [.Name y p3,e] X.env)) (backToKw pos (keywordEach [] X.env))):=by rfl):
  SD X EX (.Expr (.Call (.Attribute (.Name x pp) "__init__" zh) [.Name y p3,e] [] pos) bg) (ai_2 i c js F fe):=by
 obtain⟨B,C,f,fd,ps,hC,hm,b,ok,hb⟩:=h;refine PS.imp (ad_5 (dh_7 b (hr.mono hk) lk ok hb hm hg hdb (k_0 (Fe hN hv hd hcd) (k_0 he w_4 hs2) hs1) hs1 hpl ht) cu) λD σ H ⟨H0,G0,G,Δ,O,E,q⟩=> ?_;obtain⟨G1,O1,sg,E1⟩:=E.gsome js;unfold ai_2 at q;generalize gsome js Δ=Δ1 at q E1
 split at q
 ·rename_i c' e1
  split at q
  ·rename_i hcc;subst hcc;obtain⟨v0,s1,t0⟩:=E1.ow i _ _ e1 rfl;refine⟨v0,s1,G1,Bb Δ1,E1.st.gh,E1.gsh, ?_⟩;cases e2:fe (Bb Δ1) with
   |ex y=>simp only [e2] at q;exact q σ G1 H O1 E1 sg
   |no=>simp only [e2] at q;exact q.elim
   |ok w=>
    simp only [e2] at q;refine WP.intro λv G2 H2 st r=> ?_;have E2:=E1.grow st;obtain⟨v1,s1',t⟩:=E2.ow i _ _ e1 rfl;rw [s1] at s1';cases s1';have s2:=E2.lt i _ e1
    split at q
    ·rename_i p ef;generalize et:(Tn.obj c' [] [])=tt at t;cases t with
     | @obj a C2 dx c2 ns2 us ts2 S S1 hC2 h hl ha sub rl=>
      injection et with et1 et2 et3
      subst et1 et2 et3;have:=hC.same hC2;subst this;have:us= []:=by cases us with|nil=>rfl|cons _ _=>simp at hl
      subst this;have ga:=(E2.out i a ha).1;refine⟨a,dx,[v],λb=>if b=a then none else H2 b,G2,[w.d],rfl,rfl,if_pos rfl,λb o z=> ?_,h,λb o z=> ?_,.cons r .nil, ?_⟩
      ·simp only at z
       split at z
       ·cases z
       ·exact z
      ·simp only;rw [if_neg (Fz z ga)];exact E2.st.gh b o z
      rw [ef];intro G' H' us' dx' ms g' hx zm rr;have nb:∀b,¬O1 i b->b≠a:=λb nb w=>nb (by rw [w];exact ha);refine q σ G' H' _ (E2.step2 (S:=λb=>b=a) (z:=.lt _) rfl (λ_ z=>by cases z) (λ_ _=>s2) ⟨λb o n z=>ms.hh b o (by rw [if_neg (nb b n)];exact z),ms.gh,ms.gg,λb n z1 z2=>ms.nw b z1 (by rw [if_neg (nb b n)];exact z2)⟩ s1 (λb hb=> ?_) ?_) (sg.trans (st.gg.trans ms.gg))
      ·subst hb;exact⟨.inl ha,g',by rw [hx];simp⟩
      ·exact .obj (S1:=λ_=>False) hC hx zm rfl (λ_ z=>z.elim) (OwL.of rr)
     |_=>cases et
    ·exact q.elim
  ·exact q.elim
 ·exact q.elim
end
def FnBase(K:Frag)(B:Addr)(qual:Str)(st:Stmt):Prop:=∃f,BaseI K B f/\FnAt K "__init__" qual st f
theorem FnBase.mk{B:Addr}{qual:Str}{st:Stmt}{f:Addr}{oc kV dc pm cd ct:Value}{od an:Option Addr}{sl:Array (Option Value)}(s:specialIn K (.ref B) "__getattribute__" =some (some (.builtin "type.__getattribute__")))(r:readsIn K B (.type "type")=true)
  (a:findCls K (.ref B) (.type "type") "__init__" =some (.val (.ref f)))
  (l:K.lookup f=some ⟨oc,od,.func (fnOf "__init__" qual (k_1 st) (Fc st) (Ck st) .none kV dc pm an cd ct),sl⟩) (c:codeIn K cd qual=true) (k:keepIn K (.ref f)=true):FnBase K B qual st:=⟨f,⟨s,r,a,k⟩,FnAt.mk l c k⟩
def Step.wr{G H G' H':Hp}{a:Addr}{o:HO}(s:Step G H G' H')(n:H a=none)(g:G' a=none):Step G H G' (L2.upd H' a o):=
 ⟨λb u z=>by rw [Bm (Fz z n)];exact s.hh b u z,λb u z=>by rw [Bm (Fz z g)];exact s.gh b u z,s.gg,s.nw⟩
def cs_2(fe f:FE):FS:=λ Δ=>match fe (Bb Δ) with
 | .ok (.ow (.lst ds))=>if ds.length < 16777216 then(match f (Bb Δ) with
  | .ok _=> .nx Δ
  |_=> .no) else .no
 |_=> .no
def dt_0{EX:Bo}{o e:Expr}{fe f:FE}{zh zf pos:Pos}(ho:ED X EX o fe)(he:ED X EX e f)
  (hsw:swapsWith (.Call (.Attribute o "append" zh) [e] [] zf) none pos.line X.env=pure false:=by rfl)
  (ae:attributeBase o "append" X.env (eval o X.env)=eval o X.env:=by rfl)
  (au:((backTo zf (starEach [e] X.env)).all (λx=> !x.1) && (backToKw zf (keywordEach [] X.env)).all (λx=>x.1.isSome)
   && decide ([e].length + ([]:List Keyword).length + (if([]:List Keyword).isEmpty then 0 else 1) < 30))=true:=by rfl)
  (aa:(zh.endLine ==zf.line)=true:=by rfl) (hs:starEach [e] X.env=(false,eval e X.env)::starEach [] X.env:=by rfl) (af:(backTo zf (starEach [] X.env)).any (·.1)=false:=by rfl):
  SD X EX (.Expr (.Call (.Attribute o "append" zh) [e] [] zf) pos) (cs_2 fe f):=
 PS.imp (ad_5 (cp_9 PySem.F.plainAttrs_list PySem.F.slot_list_append PySem.F.type_list_append at_9 ho (k_0 he w_4 hs) ae au aa hs af) hsw) λD σ H ⟨H0,G0,G,Δ,O,E,q⟩=>by
  unfold cs_2 at q;refine⟨G,Bb Δ,E.st.gh,E.gsh, ?_⟩
  split at q
  ·rename_i ds e1;rw [e1]
   split at q
   ·rename_i hz;intro v S G1 H1 st fr t;obtain⟨a,vs,rfl,ha,hH,r⟩:=t.list_of;obtain⟨na,ga,la⟩:=fr a ha;have E1:=E.grow st;refine⟨.inl ⟨rfl,_,SqL.of hH⟩,G1,Bb Δ,st.gh,E1.gsh, ?_⟩;cases e2:f (Bb Δ) with
    |ex x=>simp only [e2] at q;exact q.elim
    |no=>simp only [e2] at q;exact q.elim
    |ok w=>
     simp only [e2] at q;refine WP.intro λy G2 H2 st2 r2=> ?_;refine⟨a,vs,y,rfl,rfl,st2.hh _ _ hH,by rw [r.length,sizeLine_eq];exact hz, ?_⟩;have st3:=Step.wr (a:=a) (o:=.lst (vs ++ [y])) (st.trans st2) na (st2.nw a ga la);exact q σ G2 _ _ (E.grow st3) st3.gg
   ·exact q.elim
  ·exact q.elim
def Dr(tb:List (Str×Bool))(fo:FE):FE:=λ δ=>(fo δ).bind λw=>match w.d with
 | .obj c _ _=>(match tb.lookup c with|some b=> .ok (.sh (.bl b))|none=> .no)
 |_=> .no
structure OInst(K:Frag)(C:Addr):Prop where
 pg:plainGet K C "__class__" =true
 hd:hasDictIn K C=true
 cl:findIn K (.ref C) "__class__" =some (some (.builtin "object.__class__"))
 gs:specialIn K (.builtin "object.__class__") "__get__" =some (some (.builtin "getset_descriptor.__get__"))
 tk:takesIn K (.builtin "object.__class__")=some true
 ob:mroIn K C (.type "object")=some true
def IsOneO(K:Frag)(v:Value)(tb:List (Str×Bool)):Prop:=∀c b,tb.lookup c=some b->∀C,ClsAt K c C->OInst K C/\kitOne K (.ref C) v=some b
def IsOneO.nil{v:Value}:IsOneO K v []:=λ_ _ e=>by cases e
def IsOneO.one{v:Value}{c:Str}{C:Addr}{b:Bool}(a:ClsAt K c C)(x:OInst K C)(h:kitOne K (.ref C) v=some b){tb:List (Str×Bool)}(r:IsOneO K v tb):IsOneO K v ((c,b)::tb):=λc' b' e C' a'=>by
 rw [List.lookup_cons] at e;cases z:(c' ==c) with
 |true=>
  rw [z] at e;cases e;obtain rfl:c'=c:=eq_of_beq z;obtain rfl:=ClsAt.same a a';exact⟨x,h⟩
 |false=>rw [z] at e;exact r c' b' e C' a'
section
variable{X:Cx}{EX:Bo}{zd:List (Addr×Obj)}{σ:Sg}{G H:Hp}{s:Shared}
def dh_8{a:Addr}{c:Str}{ns:List Str}{vs:List D}(I:Inv X zd σ H s)(g:Same G H)(h:Has X.K G (.ref a) (.obj c ns vs)):∃C ox od,ClsAt X.K c C/\InstAt s.heap a ox C (some od):=by
 cases h with
 |obj hc h1 hl r=>
  obtain⟨_,_,_,eo,mA,ns,_⟩:=I.hok a _ (g _ _ h1);obtain⟨od,es,ep,e,_⟩:=ns;exact⟨_,_,od,hc,eo,rfl,rfl,e⟩
def dh_9{C2:Addr}{tb:List (Str×Bool)}(k:IsOneO X.K (.ref C2) tb):Eh X (.builtin "isinstance") (λxs H Q=>∃G x c ns vs b,xs= [x,.ref C2]/\Same G H/\Has X.K G x (.obj c ns vs)/\tb.lookup c=some b/\Q (.bl b) H):=by
 intro zd s σ H xs us Q I rv h;obtain⟨G,x,c,ns,vs,b,rfl,g,r,e,q⟩:=h;obtain⟨u,u2',rfl,r1,rr⟩:=rv.two;obtain rfl:u2'=Value.ref C2:=rr;have fin:∀tk,EP X zd σ Q (.bool b) {s with toks:=tk}:=λtk=>⟨.bl b,H,I.tok _,rfl,q⟩;obtain⟨a,rfl⟩:∃a,x=.ref a:=by cases r <;> exact⟨_,rfl⟩
 obtain rfl:u=Value.ref a:=r1;obtain⟨C,ox,od,hc,io⟩:=dh_8 I g r;obtain⟨xi,ko⟩:=k c b e C hc;exact kia_one (kitx_own xi.pg xi.hd xi.cl xi.gs xi.tk xi.ob) I.kIn io ko (λz=>nomatch z) fin
variable{a:Expr}{fo:FE}{tb:List (Str×Bool)}{pp pos:Pos}
def bu_8{cn:Str}{C2:Addr}{p3:Pos}(k:IsOneO X.K (.ref C2) tb)(ha:ED X EX a fo)(hm:X.mg "isinstance" =none)(hmC:X.mg cn=some (.ref C2))(hg:Gl X "isinstance" :=by rfl)(hgC:Gl X cn:=by rfl)(hdC:(cn ==("__debug__" :Str))=false:=by decide)
  (he:starEach [a,.Name cn p3] X.env=(false,eval a X.env)::starEach [.Name cn p3] X.env:=by rfl) (hpl:(backTo pos (starEach [.Name cn p3] X.env)).any (·.1)=false:=by rfl)
  (hs:starEach [.Name cn p3] X.env=(false,eval (.Name cn p3) X.env)::starEach [] X.env:=by rfl):ED X EX (.Call (.Name "isinstance" pp) [a,.Name cn p3] [] pos) (Dr tb fo):=
 PE.imp (bd_1 (dh_9 k) hg hm boot_isinstance (k_0 ha (k_0 (br_0 (v:=.ref C2) hgC hmC rfl hdC) w_4 hs) he) (by decide) (by decide) he hpl) λ σ H Q ⟨G,δ,g0,s0,o⟩=>by
  refine tD.seq g0 s0 o λw v G1 H1 _ st1 r1 o1=> ?_;revert r1 o1;cases w.d with
  |obj c ns vs=>
   intro r1 o1;have o1:Out X.K (EX σ) G1 H1 (match tb.lookup c with|some b=> .ok (.sh (.bl b))|none=> .no) Q:=o1;cases e:tb.lookup c with
   |none=>rw [e] at o1;exact o1.elim
   |some b=>rw [e] at o1;exact⟨G1,v,c,ns,vs,b,rfl,st1.gh,r1,e,WP.use o1 st1.gh (.bl b)⟩
  |_=>intro _ o1;exact False.elim o1
end
section
variable{P:Program}{w:World}{K:Frag}{mg:Str->Option Value}{base:Heap}{cc:Bool}{k n:Nat}{ps:List Str}{st:Stmt}{Fn:List D->R W}
def Bv{m q c:Str}{C:Addr}(xa:ClsAt K c C)(cl:Cls K C)(W:FnMet K C m q st)(ok:∀{f:Addr} {fd:FuncData},Fun K m q st f fd->FnX P w K mg base cc k f fd ps (Bh K (n + 1) Fn)/\Binds K fd ps []):MethD P w K mg base cc k n m c Fn:=by
 obtain⟨f,a,⟨fd,F⟩,kp,i⟩:=W;exact⟨⟨C,f,fd,ps,xa,cl,⟨a,i,kp⟩,(ok F).1,(ok F).2⟩⟩
def Bz{x:Str}{h:Heap}(X:K.In h)(G:h.Ns mainGlobals mg)(W:FnTop K x st)(ok:∀{f:Addr} {fd:FuncData},Fun K x x st f fd->FnX P w K mg base cc k f fd ps (Bh K ps.length Fn)/\Binds K fd ps []):FnD P w K mg base cc x k ps Fn:=by
 obtain⟨f,a,fd,F⟩:=W;exact eb_2 F (mg_of X G a) (ok F).2 (ok F).1
end
section
variable{P:Program}{w:World}{K:Frag}{mg:Str->Option Value}{base:Heap}{cc:Bool}{j k n:Nat}{ps:List Str}{st:Stmt}{Fn:List D->R W}{C:Addr}{m c q f:Str}
def XB(K:Frag)(C:Addr)(q f:Str)(st:Stmt):Prop:=keepIn K (.ref C)=true/\XCls K C/\findIn K (.ref C) f=some none/\∃(fI:Addr) (fd:FuncData) (o:Obj),XMk K C fI/\K.lookup fI=some o/\o.cls=.type "function" /\Fun K "__init__" q st fI fd
def XB.mk{fI N L:Addr}{nm qn:Str}{bs sub:List Value}{sn:List Str}{ab:Bool}{col:Option Bool}{dd od ddL odL odI an:Option Addr}{k0 k1 k2 k3 k5:Option Value}{oc c0 oL kV dc pm cd ct:Value}{es esL:Array DictEntry}{ep epL:Nat}{sl sl0 slL slI:Array (Option Value)}{cdL:ClassData}
  (lc:K.lookup C=some (excClassObj nm qn C N bs (.ref L::bmVE) true sn sub ab col dd k0 k1 k2 k3 k5 "ValueError.__new__")) (ln:K.lookup N=some ⟨oc,od,.dict es ep,sl⟩) (_:findIn K (.ref C) "__init__" =some (some (.ref fI))) (kn:q_6 es=true) (hi:nsFind es "__init__" =some (.ref fI))
  (ll:K.lookup L=some ⟨c0,ddL,.cls cdL,sl0⟩) (lm:K.lookup cdL.ns=some ⟨oL,odL,.dict esL epL,slL⟩) (km:q_6 esL=true) (hL:nsFind esL "__init__" =none) (sa:findIn K (.ref C) "__setattr__" =some (some (.builtin "object.__setattr__"))) (nf:findIn K (.ref C) f=some none) (kp:keepIn K (.ref C)=true)
  (l:K.lookup fI=some ⟨.type "function",odI,.func (fnOf "__init__" q (k_1 st) (Fc st) (Ck st) .none kV dc pm an cd ct),slI⟩) (cI:codeIn K cd q=true) (kI:keepIn K (.ref fI)=true):XB K C q f st:=
 ⟨kp,ds_4 lc sa,nf,fI,_,_,ec_9 lc ln kn hi ll lm km hL,l,rfl,ck_0 l cI kI⟩
def cs_3(xa:ClsAt K c C)(gx:mg c=some (.ref C))(b:XB K C q f st)(ok:∀{fI:Addr} {fd:FuncData},Fun K "__init__" q st fI fd->XCls K C->findIn K (.ref C) f=some none->FnX P w K mg base false 1 fI fd ps (ai_0 C f)/\Binds K fd ps []):XC P w K mg base c f C:=by
 obtain⟨kp,xc,nf,fI,fd,o,mk,l,e,F⟩:=b;exact⟨xa,gx,kp,xc,fI,fd,ps,o,mk,l,e,(ok F xc nf).1,(ok F xc nf).2⟩
def XB0{N L:Addr}{nm qn:Str}{bs sub:List Value}{sn:List Str}{ab:Bool}{col:Option Bool}{dd od ddL odL:Option Addr}{k0 k1 k2 k3 k5:Option Value}{oc c0 oL:Value}{es esL:Array DictEntry}{ep epL:Nat}{sl sl0 slL:Array (Option Value)}{cdL:ClassData}
  (lc:K.lookup C=some (excClassObj nm qn C N bs (.ref L::bmVE) true sn sub ab col dd k0 k1 k2 k3 k5 "ValueError.__new__")) (ln:K.lookup N=some ⟨oc,od,.dict es ep,sl⟩) (kn:q_6 es=true) (hi:nsFind es "__init__" =none)
  (ll:K.lookup L=some ⟨c0,ddL,.cls cdL,sl0⟩) (lm:K.lookup cdL.ns=some ⟨oL,odL,.dict esL epL,slL⟩) (km:q_6 esL=true) (hL:nsFind esL "__init__" =none) (kp:keepIn K (.ref C)=true):keepIn K (.ref C)=true/\XMk0 K C:=⟨kp,ds_9 lc ln kn hi ll lm km hL⟩
def XB9(K:Frag)(C:Addr):Prop:=keepIn K (.ref C)=true/\XMk0 K C
def di_0(xa:ClsAt K c C)(gx:mg c=some (.ref C))(b:XB9 K C):XC0 K mg c C:=⟨xa,gx,b.1,b.2⟩
def OInst.mm(pg:plainGet K C Str.empty=true)(hd:hasDictIn K C=true)(cl:findIn K (.ref C) "__class__" =some (some (.builtin "object.__class__")))(gs:specialIn K (.builtin "object.__class__") "__get__" =some (some (.builtin "getset_descriptor.__get__")))(tk:takesIn K (.builtin "object.__class__")=some true)(ob:mroIn K C (.type "object")=some true):OInst K C:=⟨pg,hd,cl,gs,tk,ob⟩
def KO(K:Frag)(a b:Addr)(v:Bool):Prop:=kitOne K (.ref a) (.ref b)=some v
def KO.mk{a b:Addr}{v:Bool}(h:kitOne K (.ref a) (.ref b)=some v):KO K a b v:=h
def NoAttr.mk(h:findIn K (.ref C) f=some none):NoAttr K C f:=h
def Bs{tb:List (Str×(List D->R W))}(d:MethD P w K mg base cc j n m c Fn)(r:MethT P w K mg base cc k n m tb)(hj:j<=k:=by decide):MethT P w K mg base cc k n m ((c,Fn)::tb):=.one d hj r
def mtn:MethT P w K mg base cc k n m []:=.nil
def ar_5{Fi:List D->R (List Str×List D)}(xa:ClsAt K c C)(gx:mg c=some (.ref C))(ms:makesIn K C=true)(kc:keepIn K (.ref C)=true)(W:FnMet K C "__init__" q st)(ok:∀{f:Addr} {fd:FuncData},Fun K "__init__" q st f fd->FnX P w K mg base cc k f fd ps (spI K C n Fi)/\Binds K fd ps []):Ew P w K mg base cc c k n Fi:=by
 obtain⟨f,a,⟨fd,F⟩,kp,i⟩:=W;exact⟨C,f,fd,ps,xa,gx,⟨ms,a,i,kc⟩,(ok F).1,(ok F).2⟩
end
end L3
namespace My
open PySem L2 L3
def bo_2:FS:=
  (Af (Bw [0,1] (Ao (Ak ltD (Ab 1) (Aj By (Aa (Ab 0) Ac))))
   (An [0,1] (Ak Cf (Ab 0) (Ab 1)))
   Bg)
  (An [] (eC (.int 0))))
def n_0:List D->R W:=Ag 2 bo_2
def bo_3:FS:=
  (Af (Ah 2 [0,1] (Ak Dv (Ak Dg (Ak Bu (Ab 0) (eC (.int 1))) (Ak Bu (eC (.int 48271)) (Ak Dg (eC (.int 118)) (Ab 1)))) (eC (.int 2147483629))))
  (An [1,2] (Ak Dv (Ak Bu (Ak Bu (Ak Dg (Ak Dq (Ab 2) (eC (.int 977))) (eC (.int 16807))) (Ak Dg (Ab 2) (Ak Bu (Ak Dg (Ab 1) (Ab 1)) (eC (.int 7))))) (Ab 1)) (eC (.int 2147483587)))))
def j_6:List D->R W:=Ag 3 bo_3
def bf_3:FS:=
  (An [0,1] (Ap 2 j_6 (Aa (Ak Dv (Ap 2 n_0 (Aa (Ab 0) (Aa (Ab 1) Ac))) (eC (.int 2147483647))) (Aa (Ak Bu (Ab 1) (eC (.int 101))) Ac))))
def j_9:List D->R W:=Ag 2 bf_3
def ax_5:FS:=
  (An [0] (Ak Bu (Ak Dg (Ak Bu (Ak Dg (Ap 2 j_6 (Aa (Ab 0) (Aa (eC (.int 1)) Ac))) (eC (.int 2147483587))) (Ap 2 j_6 (Aa (Ab 0) (Aa (eC (.int 2)) Ac)))) (eC (.int 2147483587))) (Ap 2 j_6 (Aa (Ab 0) (Aa (eC (.int 3)) Ac)))))
def n_5:List D->R W:=Ag 1 ax_5
def aa_3:FE:=
  (Ap 2 n_0 (Aa (Ab 0) (Aa (Ak Bu (Ab 1) (Ab 5)) Ac)))
def aa_4:FE:=
  (Ap 1 n_5 (Aa (Ap 2 j_6 (Aa (Ap 2 j_9 (Aa (Ab 0) (Aa (Ak Bu (Ab 1) (Ak Dv (Ab 5) (Aj Fp (Aa (eC (.int 1)) (Aa (Ab 3) Ac))))) Ac))) (Aa (Ab 5) Ac))) Ac))
def ai_3:FS:=
  (Af (Ah 3 [0,1] (Aj Fp (Aa (eC (.int 0)) (Aa (Ak subD (Aj By (Aa (Ab 0) Ac)) (Ab 1)) Ac))))
  (Af (Bw [0] (Ao (Ak Cv (Ak Dv (Ap 2 n_0 (Aa (Ab 0) (Aa (eC (.int 0)) Ac))) (eC (.int 2))) (eC (.int 0))))
   (An [0,1,2,3] (Bt 1 (Av Ch (Aa (Aj minD (Aa (Ab 2) (Aa (Ab 3) Ac))) Ac)) (gC 5) (λ_=> .ok true) aa_3))
   Bg)
  (Af (Ah 4 [0,2,3] (Aj minD (Aa (Ab 2) (Aa (Aj Fp (Aa (Ab 3) (Aa (Ak Bu (eC (.int 1)) (Ak Dv (Ap 2 j_9 (Aa (Ab 0) (Aa (eC (.int 0)) Ac))) (Ab 2))) Ac))) Ac))))
  (An [0,1,3,4] (Bt 1 (Av Ch (Aa (Ab 4) Ac)) (gC 5) (λ_=> .ok true) aa_4)))))
def s_9:List D->R W:=Ag 5 ai_3
def ai_4:FS:=
  (Af (Ah 2 [2,5] (Ak Dq (Ab 2) (Ak Cf (Dh (Aa (eC (.int 12)) (Aa (eC (.int 39)) Ac))) (Aj bm_8 (Aa (Ak gtD (Ab 5) (eC (.int 0))) Ac)))))
  (Ah 3 [1,2,3] (Ak Bu (Ab 3) (Ak Cf (Ab 1) (Ak Dv (Ab 2) (eC (.int 39)))))))
def ak_7:FS:=
  (Af (Ah 1 [] (eC (.str "abcdefghijklmnopqrstuvwxyz0123456789-_ ")))
  (Af (Ah 2 [0] (Ak Dq (Ab 0) (eC (.int 3))))
  (Af (Bw [0] (Ao (Ak Cv (Ak Dv (Ab 0) (eC (.int 3))) (eC (.int 0))))
   (An [2] (Ak Dv (Ab 2) (Ak powD (eC (.int 10)) (eC (.int 18)))))
   Bg)
  (Af (Bw [0] (Ao (Ak Cv (Ak Dv (Ab 0) (eC (.int 3))) (eC (.int 2))))
   (An [2] (Ak Dv (Ab 2) (eC (.int 50))))
   Bg)
  (Af (Ah 3 [] (eC (.str "")))
  (Af (Ah 4 [2] (Ak Dv (Ab 2) (eC (.int 12))))
  (Af (Cb [4] (Av Ch (Aa (Ab 4) Ac)) (gV 5) ai_4)
  (Cd 3))))))))
def q_0:List D->R W:=Ag 6 ak_7
def x_3:FS:=
  (Af (Ah 5 [4] (Ap 1 q_0 (Aa (Ab 4) Ac)))
  (Bw [3,5] (Ao (Ak (inD true) (Ab 5) (Ab 3)))
   (Ef 3 (Ab 5))
   Bg))
def ao_8:FS:=
  (Af (Ah 3 [] (Dh Ac))
  (Af (Cb [0,1,2] (Cr (Ap 3 s_9 (Aa (Ab 0) (Aa (Ab 1) (Aa (Ab 2) Ac))))) (gV 4) x_3)
  (Af (Bw [3] (Ao (Ak Cv (Ab 3) (Dh Ac)))
   (Ah 3 [0] (Dh (Aa (Ap 1 q_0 (Aa (Ak Dq (Ap 2 n_0 (Aa (Ab 0) (Aa (eC (.int 0)) Ac))) (eC (.int 2))) Ac)) Ac)))
   Bg)
  (Cd 3))))
def u_9:List D->R W:=Ag 6 ao_8
def p_0:FS:=
  (Af (Ah 4 [0,3] (Ap 1 q_0 (Aa (Ap 1 n_5 (Aa (Ap 2 j_6 (Aa (Ap 2 j_9 (Aa (Ab 0) (Aa (eC (.int 1)) Ac))) (Aa (Ak Bu (eC (.int 60)) (Ab 3)) Ac))) Ac)) Ac)))
  (Bw [1,4] (Ao (Ak (inD true) (Ab 4) (Ab 1)))
   (Ef 2 (Ab 4))
   Bg))
def af_2:FS:=
  (Af (Ah 2 [] (Dh Ac))
  (Af (Cb [] (Av Ch (Aa (eC (.int 12)) Ac)) (gV 3) p_0)
  (Cd 2)))
def i_6:List D->R W:=Ag 5 af_2
def r_9:FE:=
  (Ak (inD false) (Ab 1) (eC (.str "abcdefghijklmnopqrstuvwxyz0123456789-_ ")))
def am_2:FS:=
  (An [0] (eAnd (Ak leD (Aj By (Aa (Ab 0) Ac)) (eC (.int 11))) (Aj allD (Aa (Bt 1 (Cr (Ab 0)) (gC 1) (λ_=> .ok true) r_9) Ac))))
def q_7:List D->R W:=Ag 1 am_2
def bf_4:FS:=
  (Af (Bw [0] (Bn (eIs "bool" (Ab 0)))
   (An [] (eC (.bl false)))
   Bg)
  (Af (Bw [0] (Bn (eIs "int" (Ab 0)))
   (An [0] (ao_3 leD leD (eC (.int 0)) (Ab 0) (eC (.int 999999999999999999))))
   Bg)
  (An [0] (eAnd (eIs "str" (Ab 0)) (Ap 1 q_7 (Aa (Ab 0) Ac))))))
def x_9:List D->R W:=Ag 1 bf_4
def u_0:FS:=
  (Bw [2] (Fq (Bn (Ap 1 x_9 (Aa (Ab 2) Ac))))
   (x_8 "NoKey" "at" [1] (Ab 1))
   Bg)
def af_3:FS:=
  (Cb [0] (u_8 (Ab 0)) (Fj 1 2) u_0)
def i_7:List D->R W:=Ag 3 af_3
def o_2:FS:=
  (Af (Bw [1,3] (Ao (Ak (inK false) (Ab 3) (Ab 1)))
   (x_8 "Twice" "at" [2] (Ab 2))
   Bg)
  (ar_2 1 [] (Ab 3) (eC (.bl true))))
def am_3:FS:=
  (Af (Ah 1 [] ar_1)
  (Cb [0] (u_8 (Ab 0)) (Fj 2 3) o_2))
def q_8:List D->R W:=Ag 4 am_3
def ax_6:FS:=
  (Af (Bw [0] (tOrF (Ao (Ak Cv (Aj By (Aa (Ab 0) Ac)) (eC (.int 0)))) (Ao (Ak gtD (Aj By (Aa (Ab 0) Ac)) (eC (.int 200)))))
   (bu_7 "NoKeys")
   Bg)
  (Af (Cj [0] (Ap 1 i_7 (Aa (Ab 0) Ac)))
  (Af (Cj [0] (Ap 1 q_8 (Aa (Ab 0) Ac)))
  (An [0] (Aj By (Aa (Ab 0) Ac))))))
def j_1:List D->R W:=Ag 1 ax_6
def ai_5:FS:=
  (Af (Bw [1] (Ao (Ak ltD (Ab 1) (eC (.int 3))))
   (An [0] (Ak Bu (Ak Bu (Ab 0) (Ak Dq (Ab 0) (eC (.int 8)))) (eC (.int 1))))
   Bg)
  (An [0] (Ak Bu (Ak Dq (Ak Dg (eC (.int 41)) (Ab 0)) (eC (.int 100))) (eC (.int 2)))))
def i_4:List D->R W:=Ag 2 ai_5
def av_4:FS:=
  (Ah 1 [1,2] (Ak Bu (Ak Bu (Ak Dg (eC (.int 40)) (Ab 1)) (Gv "str" cb_5 (eC (.str "abcdefghijklmnopqrstuvwxyz0123456789-_ ")) (Aa (Ab 2) Ac))) (eC (.int 1))))
def cs_4:FS:=
  (Af (Ah 1 [] (eC (.int 0)))
  (Af (Cb [0] (Cr (Ab 0)) (gV 2) av_4)
  (Cd 1)))
def ar_6:List D->R W:=Ag 3 cs_4
def bu_9:FS:=
  (Af (Bw [0] (Fq (Bn (Ap 1 x_9 (Aa (Ab 0) Ac))))
   (x_8 "NoKey" "at" [] (eC (.int 0)))
   Bg)
  (Af (Bw [0] (Bn (eIs "str" (Ab 0)))
   (An [0] (Ak Bu (Ak Dg (eC (.int 2)) (Ap 1 ar_6 (Aa (Ab 0) Ac))) (eC (.int 1))))
   Bg)
  (An [0] (Ak Dg (eC (.int 2)) (Ab 0)))))
def ae_0:List D->R W:=Ag 1 bu_9
def cs_5:FS:=
  (Af (Bw [2] (Ao (Ak Cv (Ab 2) (eC (.int 0))))
   (An [] (eC (.int 0)))
   Bg)
  (Af (Ah 3 [1] (Ak Bu (eC (.int 1)) (Ak Dv (Ak Bu (Ak Dg (eC (.int 1103515245)) (Ab 1)) (eC (.int 12345))) (Ak subD (eC (.int 2305843009213693951)) (eC (.int 1))))))
  (Af (Ah 4 [1] (Ak Dv (Ak Bu (Ak Dg (Ak Dg (eC (.int 69069)) (Ab 1)) (Ab 1)) (Ak Dg (eC (.int 7)) (Ab 1))) (eC (.int 2305843009213693951))))
  (Af (Ah 5 [0,3,4] (Ak Dv (Ak Bu (Ak Dg (Ab 3) (Ab 0)) (Ab 4)) (eC (.int 2305843009213693951))))
  (An [2,5] (Ak Dv (Ak Bu (Ab 5) (Ak Dq (Ab 5) (eC (.int 2147483648)))) (Ab 2)))))))
def ak_8:List D->R W:=Ag 6 cs_5
def v_3:FE:=
  (Ak Bu (Ak Dg (Ab 5) (Ab 3)) (Ap 3 ak_8 (Aa (Ab 4) (Aa (Ak Bu (Ak Dg (eC (.int 4)) (Ab 1)) (Ab 5)) (Aa (Ab 3) Ac)))))
def ax_7:FS:=
  (Af (Ah 4 [0] (Ap 1 ae_0 (Aa (Ab 0) Ac)))
  (An [1,2,3,4] (Aj de_1 (Aa (Bt 1 (Av Ch (Aa (Ab 2) Ac)) (gC 5) (λ_=> .ok true) v_3) Ac))))
def f_3:List D->R W:=Ag 5 ax_7
def ae_1:FE:=
  (Ap 4 f_3 (Aa (Ab 4) (Aa (Ab 1) (Aa (Ab 2) (Aa (Ab 3) Ac)))))
def bf_5:FS:=
  (Af (Ah 3 [0,2] (Ap 2 i_4 (Aa (Ap 1 j_1 (Aa (Ab 0) Ac)) (Aa (Ab 2) Ac))))
  (An [0,1,2,3] (Bt 1 (Cr (Ab 0)) (gC 4) (λ_=> .ok true) ae_1)))
def v_0:List D->R W:=Ag 4 bf_5
def o_3:FS:=
  (Af (Bw [1,4] (Ao (Ak (inK true) (Ab 4) (Ab 1)))
   (bn_7 1 (Ab 4))
   Bg)
  (bn_6 1 (Ab 4) (Ab 2) (eC (.bl true))))
def o_4:FS:=
  (Cb [3] (Cr (Ab 3)) (gV 4) o_3)
def aa_5:FS:=
  (Af (Ah 1 [] ar_1)
  (Af (Cb [0] (u_8 (Ab 0)) (Fj 2 3) o_4)
  (Cd 1)))
def q_9:List D->R W:=Ag 5 aa_5
def aa_6:FS:=
  (cr_6 2 (Ab 3) (Ab 0))
def ax_8:FS:=
  (Cb [1] (Cr (Ab 1)) (gV 3) aa_6)
def p_5:List D->Tn->Option Tn:=cc_3 4 ax_8
def ae_2:FT:=
  (Ao (Ak gtD (Aj By (Aa (Ab 3) Ac)) (eC (.int 0))))
def v_1:FS:=
  (Af (cc_1 7 3)
  (Bw [2,7] (Ao (Ak Cv (Aj lenK (Aa (Ak Ed (Ab 2) (Ab 7)) Ac)) (eC (.int 1))))
   (Af (Ah 8 [2,7] (Aj minK (Aa (Ak Ed (Ab 2) (Ab 7)) Ac)))
  (Af (Ef 4 (eTup (Aa (Ab 8) (Aa (Ab 7) Ac))))
  (Af (ar_2 5 [] (Ab 8) (eC (.bl true)))
  (Af (be_7 2 p_5 (Ab 8) (Ak Cf (Ab 0) (Ab 8)))
  (sExt 3 (Ak Cf (Ab 0) (Ab 8)))))))
   Bg))
def n_9:FT:=
  (Ao (Ak (inK true) (Ab 9) (Ab 5)))
def ce_7:FS:=
  (Af (Ah 2 [0] (Ap 1 q_9 (Aa (Ab 0) Ac)))
  (Af (cc_2 3 (Aj cr_8 (Aa (Ab 2) Ac)))
  (Af (Ah 4 [] (Dh Ac))
  (Af (Ah 5 [] ar_1)
  (Af (Gb [3] ae_2 v_1 3000)
  (Af (Ah 6 [0,5] (Bt 1 (Av Ch (Aa (Aj By (Aa (Ab 0) Ac)) Ac)) (gC 9) n_9 (Ab 9)))
  (dg_4 4 6)))))))
def ar_7:List D->R W:=Ag 9 ce_7
def di_1:FS:=
  (Af (Ah 3 [0,1,2] (Ap 3 v_0 (Aa (Ab 0) (Aa (Ab 1) (Aa (Ab 2) Ac)))))
  (An [0,2,3] (Ap 2 ar_7 (Aa (Ab 3) (Aa (Ak Dg (Ab 2) (Ap 2 i_4 (Aa (Aj By (Aa (Ab 0) Ac)) (Aa (Ab 2) Ac)))) Ac)))))
def Gf:List D->R W:=Ag 4 di_1
def bf_6:FS:=
  (Af (Ah 3 [0,1,2] (Ak Cf (Ap 3 Gf (Aa (Ab 0) (Aa (Ab 1) (Aa (Ab 2) Ac)))) (eC (.int 1))))
  (An [3] (Ak Cv (Aj By (Aa (Ab 3) Ac)) (eC (.int 0)))))
def g_3:List D->R W:=Ag 4 bf_6
def o_8:FS:=
  (Bw [0,1,3] (Bn (Ap 3 g_3 (Aa (Ab 0) (Aa (Ab 3) (Aa (Ab 1) Ac)))))
   (Cd 3)
   Bg)
def ai_6:FS:=
  (Af (Cj [0] (Ap 1 j_1 (Aa (Ab 0) Ac)))
  (Af (Cb [2] (Av Ch (Aa (Ab 2) Ac)) (gV 3) o_8)
  (bu_7 "NoTry")))
def Df:List D->R W:=Ag 4 ai_6
def l_3:FS:=
  (ar_2 3 [5] (Ab 4) (Ab 5))
def u_1:FE:=
  (Ak Ed (Ab 3) (Ab 6))
def af_4:FS:=
  (Af (Ah 3 [] ar_1)
  (Af (Cb [0,1,2] (Cr (Ak Cf (Ap 3 Gf (Aa (Ab 0) (Aa (Ab 1) (Aa (Ab 2) Ac)))) (eC (.int 0)))) (Fj 4 5) l_3)
  (An [0,3] (Bt 1 (Av Ch (Aa (Aj By (Aa (Ab 0) Ac)) Ac)) (gC 6) (λ_=> .ok true) u_1))))
def o_5:List D->R W:=Ag 6 af_4
def ao_9:FS:=
  (An [0,1] (eAnd (eNot (eIs "bool" (Ab 0))) (ao_3 leD ltD (eC (.int 0)) (Ab 0) (Ab 1))))
def m_1:List D->R W:=Ag 2 ao_9
def ax_9:FS:=
  (An [0,1] (eIf (Ao (Ak Cv (Ab 1) (eC (.int 0)))) (eC (.int 0)) (Ak Dv (Ab 0) (Ab 1))))
def t_0:List D->R W:=Ag 2 ax_9
def y_0:FE:=
  (Ak Cf (Ab 0) (Ab 4))
def y_1:FT:=
  (Bn (Ap 2 m_1 (Aa (Ab 4) (Aa (Aj By (Aa (Ab 0) Ac)) Ac))))
def ce_8:FS:=
  (Af (Ah 3 [0,1] (Bt 1 (Cr (Ab 1)) (gC 4) y_1 y_0))
  (An [2,3] (Ap 2 t_0 (Aa (Aj sumD (Aa (Ab 3) Ac)) (Aa (Ab 2) Ac)))))
def p_6:List D->R W:=Ag 4 ce_8
def ap_0:FS:=
  (Af (Ah 8 [0,3,4,5,6] (Ak subD (Ak Cf (Ab 3) (Ab 6)) (Ap 3 p_6 (Aa (Ab 5) (Aa (Ak Cf (Ab 0) (Ab 6)) (Aa (Ab 4) Ac))))))
  (Bw [1,7] (Bn (Ap 2 m_1 (Aa (Ab 7) (Aa (Ab 1) Ac))))
   (cr_3 5 [4,8] (Ab 7) (Ap 2 t_0 (Aa (Ab 8) (Aa (Ab 4) Ac))))
   Bg))
def ce_9:FS:=
  (Af (Ah 5 [1] (eRep (Aa (eC (.int 0)) Ac) (Ab 1)))
  (Af (Cb [2] (iRev (Ab 2)) (Fj 6 7) ap_0)
  (Cd 5)))
def ai_7:List D->R W:=Ag 9 ce_9
def av_5:FS:=
  (Af (Cq 0 ["Table"] "by_salt" [1] (Ab 1))
  (Af (Cq 0 ["Table"] "kind" [2] (Ab 2))
  (Af (Cq 0 ["Table"] "part" [3] (Ab 3))
  (Af (Cq 0 ["Table"] "modulus" [4] (Ab 4))
  (Cq 0 ["Table"] "listed" [5] (Ab 5))))))
def z_4:List D->R (List Str×List D):=Fw 6 "Table" av_5
def ay_0:FS:=
  (Af (Ah 5 [0,2] (Ap 2 i_4 (Aa (Aj By (Aa (Ab 0) Ac)) (Aa (Ab 2) Ac))))
  (Af (Ah 6 [0,1,2] (Ap 3 v_0 (Aa (Ab 0) (Aa (Ab 1) (Aa (Ab 2) Ac)))))
  (Af (Ah 7 [0,1,2] (Ak Cf (Ap 3 Gf (Aa (Ab 0) (Aa (Ab 1) (Aa (Ab 2) Ac)))) (eC (.int 0))))
  (An [1,2,3,4,5,6,7] (Es "Table" 5 z_4 (Aa (Ab 1) (Aa (Ab 2) (Aa (Ab 5) (Aa (Ab 3) (Aa (Ap 5 ai_7 (Aa (Ab 6) (Aa (Ak Dg (Ab 2) (Ab 5)) (Aa (Ab 7) (Aa (Ab 4) (Aa (Ab 3) Ac)))))) Ac))))))))))
def h_1:List D->R W:=Ag 8 ay_0
def p_1:FE:=
  (eIf (Ao (Ak (inD false) (Ab 2) (Ab 0))) (eC (.str "1")) (eC (.str "0")))
def af_5:FS:=
  (An [0,1] (Gv "str" aq_9 (eC (.str "")) (Aa (Bt 1 (Av Ch (Aa (Ab 1) Ac)) (gC 2) (λ_=> .ok true) p_1) Ac)))
def k_9:List D->R W:=Ag 2 af_5
abbrev La:List Str:=["Peeled","Ordered","Kept","Marked","PeeledAgain","OrderedAgain","KeptAgain","MarkedAgain"]
def ac_1:FS:=
  (Cq 0 La "how_many" [1] (Ab 1))
def f_6:List D->R (List Str×List D):=Fw 2 "Peeled" ac_1
def i_8:FE:=
  (Ak Dq (Ab 7) (Ab 5))
abbrev Lj:List Str:=["Peeled","PeeledAgain"]
def u_2:FS:=
  (Af (Ah 4 [1,2,3] (Ap 3 Df (Aa (Ab 1) (Aa (Ab 2) (Aa (Ab 3) Ac)))))
  (Af (ai_2 0 "Peeled" [1] f_6 (Aj By (Aa (Ab 1) Ac)))
  (Af (Ah 5 [1,2] (Ap 2 i_4 (Aa (Aj By (Aa (Ab 1) Ac)) (Aa (Ab 2) Ac))))
  (Af (Ah 6 [1,2,4] (Ap 3 o_5 (Aa (Ab 1) (Aa (Ab 4) (Aa (Ab 2) Ac)))))
  (Af (Cq 0 La "own_table" [1,2,4,5,6] (Ap 5 h_1 (Aa (Ab 1) (Aa (Ab 4) (Aa (Ab 2) (Aa (Ab 2) (Aa (Bt 1 (Cr (Ab 6)) (gC 7) (λ_=> .ok true) i_8) Ac)))))))
  (Cq 0 Lj "used_row" [2,5,6] (Ap 2 k_9 (Aa (Ab 6) (Aa (Ak Dg (Ab 2) (Ab 5)) Ac)))))))))
def v_7:List D->R (List Str×List D):=Fw 7 "Peeled" u_2
def aa_8:FS:=
  (Cq 0 La "how_many" [1] (Ab 1))
def e_9:List D->R (List Str×List D):=Fw 2 "Ordered" aa_8
def s_4:FS:=
  (Af (Ah 4 [1,2,3] (Ap 3 Df (Aa (Ab 1) (Aa (Ab 2) (Aa (Ab 3) Ac)))))
  (Af (ai_2 0 "Ordered" [1] e_9 (Aj By (Aa (Ab 1) Ac)))
  (Cq 0 La "own_table" [1,2,4] (Ap 5 h_1 (Aa (Ab 1) (Aa (Ab 4) (Aa (Ab 2) (Aa (Aj By (Aa (Ab 1) Ac)) (Aa (eRng Ch (Aa (Aj By (Aa (Ab 1) Ac)) Ac)) Ac)))))))))
def t_1:List D->R (List Str×List D):=Fw 5 "Ordered" s_4
def ap_1:FS:=
  (Ah 1 [1] (Ak Dg (Ab 1) (eC (.int 2))))
def cf_0:FS:=
  (Af (Ah 1 [] (eC (.int 1)))
  (Af (Cb [0] (Av Ch (Aa (Ab 0) Ac)) (gV 2) ap_1)
  (Cd 1)))
def n_1:List D->R W:=Ag 3 cf_0
def o_6:FS:=
  (Bw [1,2,3,4] (tOrF (Ao (Ak geD (Ab 3) (Ab 1))) (Fq (Bn (Ap 2 m_1 (Aa (Ab 4) (Aa (Ab 2) Ac))))))
   (x_8 "NoValue" "at" [3] (Ab 3))
   Bg)
def am_4:FS:=
  (Af (Cb [0] (u_8 (Ab 0)) (Fj 3 4) o_6)
  (Bw [0,1] (Ao (Ak ltD (Aj By (Aa (Ab 0) Ac)) (Ab 1)))
   (x_8 "NoValue" "at" [0] (Aj By (Aa (Ab 0) Ac)))
   Bg))
def j_2:List D->R W:=Ag 5 am_4
abbrev Lb:List Str:=["Kept","Marked","KeptAgain","MarkedAgain"]
def w_5:FS:=
  (Af (Ah 6 [3] (Ap 1 n_1 (Aa (Ab 3) Ac)))
  (Af (Cq 0 La "how_many" [1] (Ap 1 j_1 (Aa (Ab 1) Ac)))
  (Af (Cj [1,2,6] (Ap 3 j_2 (Aa (Ab 2) (Aa (Aj By (Aa (Ab 1) Ac)) (Aa (Ab 6) Ac)))))
  (Af (Ah 7 [1,4,5] (Ap 3 Df (Aa (Ab 1) (Aa (Ab 4) (Aa (Ab 5) Ac)))))
  (Af (Cq 0 Lb "width" [3] (Ab 3))
  (Cq 0 La "own_table" [1,2,4,6,7] (Ap 5 h_1 (Aa (Ab 1) (Aa (Ab 7) (Aa (Ab 4) (Aa (Ab 6) (Aa (Ab 2) Ac))))))))))))
def ai_8:List D->R (List Str×List D):=Fw 8 "Kept" w_5
def di_2:FS:=
  (An [0,1] (Ap 3 ak_8 (Aa (Ap 1 ae_0 (Aa (Ab 0) Ac)) (Aa (eC (.int 3)) (Aa (Ap 1 n_1 (Aa (Ab 1) Ac)) Ac)))))
def ap_2:List D->R W:=Ag 2 di_2
def m_3:FE:=
  (Ap 2 ap_2 (Aa (Ab 6) (Aa (Ab 2) Ac)))
def u_3:FS:=
  (Af (Ah 5 [1,3,4] (Ap 3 Df (Aa (Ab 1) (Aa (Ab 3) (Aa (Ab 4) Ac)))))
  (Af (Cq 0 La "how_many" [1] (Aj By (Aa (Ab 1) Ac)))
  (Af (Cq 0 Lb "width" [2] (Ab 2))
  (Cq 0 La "own_table" [1,2,3,5] (Ap 5 h_1 (Aa (Ab 1) (Aa (Ab 5) (Aa (Ab 3) (Aa (Ap 1 n_1 (Aa (Ab 2) Ac)) (Aa (Bt 1 (Cr (Ab 1)) (gC 6) (λ_=> .ok true) m_3) Ac))))))))))
def v_8:List D->R (List Str×List D):=Fw 6 "Marked" u_3
def g_0:FS:=
  (Bw [0] (Ao (Ak Cv (Ab 0) (eC (.int 0))))
   (Ah 5 [1,4] (Es "Peeled" 3 v_7 (Aa (Ab 1) (Aa (Ab 4) (Aa (eC (.int 20)) Ac)))))
   (Bw [0] (Ao (Ak Cv (Ab 0) (eC (.int 1))))
   (Ah 5 [1,4] (Es "Ordered" 3 t_1 (Aa (Ab 1) (Aa (Ab 4) (Aa (eC (.int 20)) Ac)))))
   (Bw [0] (Ao (Ak Cv (Ab 0) (eC (.int 2))))
   (Ah 5 [1,2,3,4] (Es "Kept" 5 ai_8 (Aa (Ab 1) (Aa (Ab 2) (Aa (Ab 3) (Aa (Ab 4) (Aa (eC (.int 20)) Ac)))))))
   (Ah 5 [1,3,4] (Es "Marked" 4 v_8 (Aa (Ab 1) (Aa (Ab 3) (Aa (Ab 4) (Aa (eC (.int 20)) Ac)))))))))
def ae_3:FS:=
  (Ah 5 [] (eC .non))
abbrev L97:List (Str×Bool):=[("NoBits",false),("NoKey",false),("NoKeys",false),("NoTry",true),("NoValue",false),("Twice",false)]
def ap_3:FS:=
  (Af (Ah 5 [] (eC .non))
  (Af (bf_2 g_0 [⟨none, L97,ae_3⟩])
  (Cd 5)))
def s_5:List D->R W:=Ag 6 ap_3
def am_5:FS:=
  (An [0,1] (Gv "str" be_2 (eSlice (Ab 0) oNone (Gu (Aj Fp (Aa (Ab 1) (Aa (eC (.int 0)) Ac))))) (Aa (eC (.str "1")) Ac)))
def o_9:List D->R W:=Ag 2 am_5
def ai_9:FS:=
  (An [0,1] (Ap 4 f_3 (Aa (Ab 1) (Aa (Br ["Table"] "by_salt" (Ab 0)) (Aa (Br ["Table"] "kind" (Ab 0)) (Aa (Br ["Table"] "part" (Ab 0)) Ac))))))
def d_7:List D->R W:=Ag 2 ai_9
def af_6:FS:=
  (An [0,1] (Bf "places" 1 [("Table",d_7)] (Br La "own_table" (Ab 0)) (Aa (Ab 1) Ac)))
def b_5:List D->R W:=Ag 2 af_6
def am_6:FS:=
  (An [0,1] (Ap 3 p_6 (Aa (Br ["Table"] "listed" (Ab 0)) (Aa (Bf "places" 1 [("Table",d_7)] (Ab 0) (Aa (Ab 1) Ac)) (Aa (Br ["Table"] "modulus" (Ab 0)) Ac)))))
def c_9:List D->R W:=Ag 2 am_6
abbrev J15:List (Str×(List D->R W)):=[("Peeled",b_5),("PeeledAgain",b_5)]
def y_2:FS:=
  (Af (Ah 2 [0,1] (Ak Cf (Bf "places" 1 J15 (Ab 0) (Aa (Ab 1) Ac)) (Bf "total" 1 [("Table",c_9)] (Br La "own_table" (Ab 0)) (Aa (Ab 1) Ac))))
  (An [0,2] (Ap 2 o_9 (Aa (Br Lj "used_row" (Ab 0)) (Aa (Ab 2) Ac)))))
def c_5:List D->R W:=Ag 3 y_2
def w_7:FS:=
  (An [0,1] (Bf "total" 1 [("Table",c_9)] (Br La "own_table" (Ab 0)) (Aa (Ab 1) Ac)))
def c_1:List D->R W:=Ag 2 w_7
abbrev J12:List (Str×(List D->R W)):=[("Peeled",c_5),("Ordered",c_1),("PeeledAgain",c_5),("OrderedAgain",c_1)]
def am_7:FS:=
  (An [0,1] (Aj minD (Aa (Bf "number_of" 1 J12 (Ab 0) (Aa (Ab 1) Ac)) (Aa (Ak subD (Br La "how_many" (Ab 0)) (eC (.int 1))) Ac))))
def a_8:List D->R W:=Ag 2 am_7
abbrev J10:List (Str×(List D->R W)):=[("Peeled",a_8),("Ordered",a_8),("PeeledAgain",a_8),("OrderedAgain",a_8)]
def ac_2:FE:=
  (Bf "room" 1 J10 (Ab 0) (Aa (Ab 2) Ac))
def aj_0:FS:=
  (Af (Cj [1] (Ap 1 i_7 (Aa (Ab 1) Ac)))
  (An [0,1] (Bt 1 (Cr (Ab 1)) (gC 2) (λ_=> .ok true) ac_2)))
def b_4:List D->R W:=Ag 2 aj_0
def ar_8:FS:=
  (An [0,1] (Bf "total" 1 [("Table",c_9)] (Br La "own_table" (Ab 0)) (Aa (Ab 1) Ac)))
def d_8:List D->R W:=Ag 2 ar_8
def aj_1:FS:=
  (An [0,1] (Ak Cv (Bf "total" 1 [("Table",c_9)] (Br La "own_table" (Ab 0)) (Aa (Ab 1) Ac)) (Ap 2 ap_2 (Aa (Ab 1) (Aa (Br Lb "width" (Ab 0)) Ac)))))
def e_5:List D->R W:=Ag 2 aj_1
def af_7:FE:=
  (Bf "room" 1 J10 (Ab 0) (Aa (Ab 3) Ac))
abbrev J17:List (Str×(List D->R W)):=[("Kept",d_8),("KeptAgain",d_8)]
def af_8:FE:=
  (Bf "value" 1 J17 (Ab 0) (Aa (Ab 3) Ac))
abbrev J16:List (Str×(List D->R W)):=[("Marked",e_5),("MarkedAgain",e_5)]
def af_9:FE:=
  (Bf "knows" 1 J16 (Ab 0) (Aa (Ab 3) Ac))
abbrev J13:List (Str×(List D->R W)):=[("Peeled",b_4),("Ordered",b_4),("PeeledAgain",b_4),("OrderedAgain",b_4)]
def v_4:FS:=
  (Af (Bw [1] (Ao (Ak ltD (Ab 1) (eC (.int 2))))
   (An [0,2] (Ak Bu (Bt 1 (Cr (Ab 2)) (gC 3) (λ_=> .ok true) af_7) (Bf "rooms" 1 J13 (Ab 0) (Aa (Aj bs_6 (Aa (Ab 2) Ac)) Ac))))
   Bg)
  (Af (Bw [1] (Ao (Ak Cv (Ab 1) (eC (.int 2))))
   (An [0,2] (Bt 1 (Cr (Ab 2)) (gC 3) (λ_=> .ok true) af_8))
   Bg)
  (An [0,2] (Bt 1 (Cr (Ab 2)) (gC 3) (λ_=> .ok true) af_9))))
def h_5:List D->R W:=Ag 3 v_4
def ac_3:FS:=
  (An [0,1] (Bf "places" 1 [("Table",d_7)] (Br La "own_table" (Ab 0)) (Aa (Ab 1) Ac)))
def d_1:List D->R W:=Ag 2 ac_3
def am_8:FS:=
  (An [0,1] (Bf "places" 1 [("Table",d_7)] (Br La "own_table" (Ab 0)) (Aa (Ab 1) Ac)))
def f_0:List D->R W:=Ag 2 am_8
def ag_0:FS:=
  (An [0,1] (Bf "places" 1 [("Table",d_7)] (Br La "own_table" (Ab 0)) (Aa (Ab 1) Ac)))
def d_5:List D->R W:=Ag 2 ag_0
def bk_1:FS:=
  (An [0] (Aj bs_6 (Aa (Br ["Table"] "listed" (Ab 0)) Ac)))
def j_3:List D->R W:=Ag 1 bk_1
def bf_7:FS:=
  (An [0] (Bf "table" 0 [("Table",j_3)] (Br La "own_table" (Ab 0)) Ac))
def c_7:List D->R W:=Ag 1 bf_7
def ba_2:FS:=
  (An [0] (Bf "table" 0 [("Table",j_3)] (Br La "own_table" (Ab 0)) Ac))
def c_4:List D->R W:=Ag 1 ba_2
def bv_0:FS:=
  (An [0] (Bf "table" 0 [("Table",j_3)] (Br La "own_table" (Ab 0)) Ac))
def d_9:List D->R W:=Ag 1 bv_0
def bf_8:FS:=
  (An [0] (Bf "table" 0 [("Table",j_3)] (Br La "own_table" (Ab 0)) Ac))
def c_8:List D->R W:=Ag 1 bf_8
def bv_1:FS:=
  (An [0] (Br ["Table"] "by_salt" (Ab 0)))
def l_4:List D->R W:=Ag 1 bv_1
def bk_2:FS:=
  (An [0] (Bf "salt" 0 [("Table",l_4)] (Br La "own_table" (Ab 0)) Ac))
def f_1:List D->R W:=Ag 1 bk_2
def bf_9:FS:=
  (An [0] (Bf "salt" 0 [("Table",l_4)] (Br La "own_table" (Ab 0)) Ac))
def e_6:List D->R W:=Ag 1 bf_9
def cf_1:FS:=
  (An [0] (Bf "salt" 0 [("Table",l_4)] (Br La "own_table" (Ab 0)) Ac))
def h_2:List D->R W:=Ag 1 cf_1
def bk_3:FS:=
  (An [0] (Bf "salt" 0 [("Table",l_4)] (Br La "own_table" (Ab 0)) Ac))
def f_2:List D->R W:=Ag 1 bk_3
def bk_4:FS:=
  (An [0] (Br La "how_many" (Ab 0)))
def b_0:List D->R W:=Ag 1 bk_4
def cf_2:FS:=
  (An [0] (Br La "how_many" (Ab 0)))
def f_7:List D->R W:=Ag 1 cf_2
def bk_5:FS:=
  (An [0] (Br La "how_many" (Ab 0)))
def e_1:List D->R W:=Ag 1 bk_5
def bk_6:FS:=
  (An [0] (Br Lj "used_row" (Ab 0)))
def e_2:List D->R W:=Ag 1 bk_6
abbrev L98:List (Str×(List D->R W)):=[("Peeled",b_5),("Ordered",d_1),("Kept",f_0),("Marked",d_5),("PeeledAgain",b_5),("OrderedAgain",d_1),("KeptAgain",f_0),("MarkedAgain",d_5)]
def ay_1:FE:=
  (Bf "places" 1 L98 (Ab 0) (Aa (Ab 4) Ac))
abbrev L90:List (Str×(List D->R W)):=[("Peeled",b_0),("Ordered",b_0),("Kept",f_7),("Marked",e_1),("PeeledAgain",b_0),("OrderedAgain",b_0),("KeptAgain",f_7),("MarkedAgain",e_1)]
abbrev L91:List (Str×(List D->R W)):=[("Peeled",f_1),("Ordered",e_6),("Kept",h_2),("Marked",f_2),("PeeledAgain",f_1),("OrderedAgain",e_6),("KeptAgain",h_2),("MarkedAgain",f_2)]
abbrev L92:List (Str×(List D->R W)):=[("Peeled",c_7),("Ordered",c_4),("Kept",d_9),("Marked",c_8),("PeeledAgain",c_7),("OrderedAgain",c_4),("KeptAgain",d_9),("MarkedAgain",c_8)]
abbrev J14:List (Str×(List D->R W)):=[("Peeled",e_2),("PeeledAgain",e_2)]
def av_6:FS:=
  (Af (Ah 3 [0,2] (Dh (Aa (Bf "many" 0 L90 (Ab 0) Ac) (Aa (Bf "salt" 0 L91 (Ab 0) Ac) (Aa (Bf "table" 0 L92 (Ab 0) Ac) (Aa (Bt 1 (Cr (Ab 2)) (gC 4) (λ_=> .ok true) ay_1) Ac))))))
  (Af (Bw [1] (Ao (Ak Cv (Ab 1) (eC (.int 0))))
   (Ef 3 (Bf "used" 0 J14 (Ab 0) Ac))
   Bg)
  (An [0,1,2,3] (Ak Bu (Ab 3) (Dh (Aa (Ap 3 h_5 (Aa (Ab 0) (Aa (Ab 1) (Aa (Ab 2) Ac)))) Ac))))))
def n_2:List D->R W:=Ag 4 av_6
def s_6:FS:=
  (Af (Ah 2 [2,3] (Ak Bu (Aj cq_9 (Aa (Ak Dv (Ab 3) (eC (.int 2))) Ac)) (Ab 2)))
  (Ah 3 [3] (Ak Dq (Ab 3) (eC (.int 2)))))
def ac_4:FS:=
  (Af (Ah 2 [] (eC (.str "")))
  (Af (Ah 3 [0] (Ab 0))
  (Af (Cb [1] (Av Ch (Aa (Ab 1) Ac)) (gV 4) s_6)
  (Cd 2))))
def n_3:List D->R W:=Ag 5 ac_4
def aj_2:FS:=
  (Bw [2,4] (Fq (Bn (Ap 2 m_1 (Aa (Ab 4) (Aa (Ab 2) Ac)))))
   (x_8 "NoBits" "at" [3] (Ab 3))
   Bg)
def z_5:FE:=
  (Ap 2 n_3 (Aa (Ab 5) (Aa (Ab 1) Ac)))
def bo_4:FS:=
  (Af (Ah 2 [1] (Ap 1 n_1 (Aa (Ab 1) Ac)))
  (Af (Cb [0] (u_8 (Ab 0)) (Fj 3 4) aj_2)
  (An [0,1] (Gv "str" aq_9 (eC (.str "")) (Aa (Bt 1 (Cr (Ab 0)) (gC 5) (λ_=> .ok true) z_5) Ac)))))
def ac_5:List D->R W:=Ag 5 bo_4
def bo_5:FS:=
  (Af (Ah 4 [1,2] (Ap 2 ac_5 (Aa (Bf "table" 0 L92 (Ab 1) Ac) (Aa (Ab 2) Ac))))
  (An [0,1,2,3,4] (eTup (Aa (Ab 0) (Aa (Br ["Table"] "kind" (Br La "own_table" (Ab 1))) (Aa (Bf "salt" 0 L91 (Ab 1) Ac) (Aa (Bf "many" 0 L90 (Ab 1) Ac) (Aa (Ab 2) (Aa (Ab 4) (Aa (Ab 3) Ac))))))))))
def l_0:List D->R W:=Ag 5 bo_5
def cf_3:FS:=
  (An [0] (Aj Fp (Aa (eMeth0 "int" de_9 (Ak subD (Ab 0) (eC (.int 1)))) (Aa (eC (.int 1)) Ac))))
def n_6:List D->R W:=Ag 1 cf_3
abbrev L93:List (Str×Bool):=[("Peeled",true),("Ordered",false),("Kept",false),("Marked",false),("PeeledAgain",true),("OrderedAgain",false),("KeptAgain",false),("MarkedAgain",false)]
abbrev L94:List (Str×Bool):=[("Peeled",false),("Ordered",true),("Kept",false),("Marked",false),("PeeledAgain",false),("OrderedAgain",true),("KeptAgain",false),("MarkedAgain",false)]
abbrev L95:List (Str×Bool):=[("Peeled",false),("Ordered",false),("Kept",true),("Marked",false),("PeeledAgain",false),("OrderedAgain",false),("KeptAgain",true),("MarkedAgain",false)]
abbrev L96:List (Str×Bool):=[("Peeled",false),("Ordered",false),("Kept",false),("Marked",true),("PeeledAgain",false),("OrderedAgain",false),("KeptAgain",false),("MarkedAgain",true)]
def u_4:FS:=
  (Af (Bw [0] (Bn (Dr L93 (Ab 0)))
   (An [0] (Ap 4 l_0 (Aa (eC (.str "peeled")) (Aa (Ab 0) (Aa (Ap 1 n_6 (Aa (Br ["Table"] "kind" (Br La "own_table" (Ab 0))) Ac)) (Aa (Bf "used" 0 J14 (Ab 0) Ac) Ac))))))
   Bg)
  (Af (Bw [0] (Bn (Dr L94 (Ab 0)))
   (An [0] (Ap 4 l_0 (Aa (eC (.str "ordered")) (Aa (Ab 0) (Aa (Ap 1 n_6 (Aa (Bf "many" 0 L90 (Ab 0) Ac) Ac)) (Aa (eC (.str "")) Ac))))))
   Bg)
  (Af (Bw [0] (Bn (Dr L95 (Ab 0)))
   (An [0] (Ap 4 l_0 (Aa (eC (.str "kept")) (Aa (Ab 0) (Aa (Br Lb "width" (Ab 0)) (Aa (eC (.str "")) Ac))))))
   Bg)
  (Af (Bw [0] (Bn (Dr L96 (Ab 0)))
   (An [0] (Ap 4 l_0 (Aa (eC (.str "marked")) (Aa (Ab 0) (Aa (Br Lb "width" (Ab 0)) (Aa (eC (.str "")) Ac))))))
   Bg)
  (An [] (eC .non))))))
def e_4:List D->R W:=Ag 1 u_4
def am_9:FS:=
  (Af (Bw [1] (Ao (Ak ltD (Ab 1) (eC (.int 1))))
   (An [0] (Ak Cv (Ab 0) (eC (.int 0))))
   Bg)
  (An [0,1] (Ak Cv (Ak Dv (Ab 0) (Ab 1)) (eC (.int 0)))))
def r_0:List D->R W:=Ag 2 am_9
def aa_9:FS:=
  (Bw [3] (Eo (Ao (Ak Fb (Ab 3) (eC (.str "0")))) (Ao (Ak Fb (Ab 3) (eC (.str "1")))))
   (x_8 "NoBits" "at" [2] (Ab 2))
   Bg)
def ay_2:FS:=
  (Af (Cb [0] (u_8 (Ab 0)) (Fj 2 3) aa_9)
  (Bw [0,1] (Fq (Bn (Ap 2 r_0 (Aa (Aj By (Aa (Ab 0) Ac)) (Aa (Ab 1) Ac)))))
   (x_8 "NoBits" "at" [0] (Aj By (Aa (Ab 0) Ac)))
   Bg))
def v_9:List D->R W:=Ag 4 ay_2
def w_6:FS:=
  (Ah 1 [1,2] (Ak Bu (Ak Dg (eC (.int 2)) (Ab 1)) (eIf (Ao (Ak Cv (Ab 2) (eC (.str "1")))) (eC (.int 1)) (eC (.int 0)))))
def an_0:FS:=
  (Af (Ah 1 [] (eC (.int 0)))
  (Af (Cb [0] (Cr (Ab 0)) (gV 2) w_6)
  (Cd 1)))
def r_1:List D->R W:=Ag 3 an_0
def r_2:FT:=
  (Ao (Ak ltD (Ab 3) (Aj By (Aa (Ab 0) Ac))))
def v_5:FS:=
  (Af (Ef 2 (Ap 1 r_1 (Aa (eSlice (Ab 0) (Gu (Ab 3)) (Gu (Ak Bu (Ab 3) (Ab 1)))) Ac)))
  (Ah 3 [1,3] (Ak Bu (Ab 3) (Ab 1))))
def ay_3:FS:=
  (Af (Cj [0,1] (Ap 2 v_9 (Aa (Ab 0) (Aa (Ab 1) Ac))))
  (Af (Ah 2 [] (Dh Ac))
  (Af (Ah 3 [] (eC (.int 0)))
  (Af (Gb [0,3] r_2 v_5 3000)
  (Cd 2)))))
def w_0:List D->R W:=Ag 4 ay_3
def ag_1:FS:=
  (An [0,1,2] (eIf (Ao (Ak gtD (Ab 1) (eC (.int 0)))) (Ap 2 w_0 (Aa (Ab 0) (Aa (Ab 1) Ac))) (eRep (Aa (eC (.int 0)) Ac) (Ab 2))))
def o_7:List D->R W:=Ag 3 ag_1
def ae_4:FS:=
  (Af (Cq 0 La "how_many" [1] (Ab 1))
  (Af (Cq 0 La "own_table" [2] (Ab 2))
  (Cq 0 Lj "used_row" [3] (Ab 3))))
def r_3:List D->R (List Str×List D):=Fw 4 "PeeledAgain" ae_4
def ac_6:FS:=
  (Af (Cq 0 La "how_many" [1] (Ab 1))
  (Cq 0 La "own_table" [2] (Ab 2)))
def p_7:List D->R (List Str×List D):=Fw 3 "OrderedAgain" ac_6
def aj_3:FS:=
  (Af (Cq 0 La "how_many" [1] (Ab 1))
  (Af (Cq 0 La "own_table" [2] (Ab 2))
  (Cq 0 Lb "width" [3] (Ab 3))))
def w_1:List D->R (List Str×List D):=Fw 4 "KeptAgain" aj_3
def ae_5:FS:=
  (Af (Cq 0 La "how_many" [1] (Ab 1))
  (Af (Cq 0 La "own_table" [2] (Ab 2))
  (Cq 0 Lb "width" [3] (Ab 3))))
def r_4:List D->R (List Str×List D):=Fw 4 "MarkedAgain" ae_5
def y_3:FS:=
  (Af (Ah 7 [1,3] (Ap 2 i_4 (Aa (Ab 3) (Aa (Ab 1) Ac))))
  (Af (Ah 8 [1,4,5,7] (Ap 3 o_7 (Aa (Ab 5) (Aa (Ab 4) (Aa (Ak Dg (Ab 1) (Ab 7)) Ac)))))
  (Af (Bw [0] (Ao (Ak Cv (Ab 0) (eC (.str "peeled"))))
   (An [1,2,3,6,7,8] (Es "PeeledAgain" 3 r_3 (Aa (Ab 3) (Aa (Es "Table" 5 z_4 (Aa (Ab 2) (Aa (Ab 1) (Aa (Ab 7) (Aa (Ab 1) (Aa (Ab 8) Ac)))))) (Aa (Ab 6) Ac)))))
   Bg)
  (Af (Bw [0] (Ao (Ak Cv (Ab 0) (eC (.str "ordered"))))
   (An [1,2,3,7,8] (Es "OrderedAgain" 2 p_7 (Aa (Ab 3) (Aa (Es "Table" 5 z_4 (Aa (Ab 2) (Aa (Ab 1) (Aa (Ab 7) (Aa (Ab 3) (Aa (Ab 8) Ac)))))) Ac))))
   Bg)
  (Af (Ah 9 [1,2,4,7,8] (Es "Table" 5 z_4 (Aa (Ab 2) (Aa (Ab 1) (Aa (Ab 7) (Aa (Ap 1 n_1 (Aa (Ab 4) Ac)) (Aa (Ab 8) Ac)))))))
  (Af (Bw [0] (Ao (Ak Cv (Ab 0) (eC (.str "kept"))))
   (An [3,4,9] (Es "KeptAgain" 3 w_1 (Aa (Ab 3) (Aa (Ab 9) (Aa (Ab 4) Ac)))))
   Bg)
  (An [3,4,9] (Es "MarkedAgain" 3 r_4 (Aa (Ab 3) (Aa (Ab 9) (Aa (Ab 4) Ac)))))))))))
def p_8:List D->R W:=Ag 10 y_3
def ar_9:FS:=
  (An [0] (Ap 7 p_8 (Aa (Ak Cf (Ab 0) (eC (.int 0))) (Aa (Ak Cf (Ab 0) (eC (.int 1))) (Aa (Ak Cf (Ab 0) (eC (.int 2))) (Aa (Ak Cf (Ab 0) (eC (.int 3))) (Aa (Ak Cf (Ab 0) (eC (.int 4))) (Aa (Ak Cf (Ab 0) (eC (.int 5))) (Aa (Ak Cf (Ab 0) (eC (.int 6))) Ac)))))))))
def h_6:List D->R W:=Ag 1 ar_9
def bv_2:FS:=
  (Ah 4 [4] (Ak Dg (eC (.int 2)) (Ab 4)))
def ae_6:FE:=
  (Ak Dv (Ap 2 j_6 (Aa (Ap 2 j_9 (Aa (Ab 0) (Aa (eC (.int 1)) Ac))) (Aa (Ab 15) Ac))) (Ab 4))
def bb_7:FT:=
  (Ao (Ak (inD true) (Ab 15) (Ab 1)))
def dt_1:FE:=
  (Bf "value" 1 [("KeptAgain",d_8)] (Ab 14) (Aa (Ab 15) Ac))
abbrev J11:List (Str×(List D->R W)):=[("PeeledAgain",c_7),("OrderedAgain",c_4),("KeptAgain",d_9),("MarkedAgain",c_8)]
def bb_8:FS:=
  (Af (Ah 10 [1,3,6,7,9] (Ap 5 s_5 (Aa (Ab 9) (Aa (Ab 1) (Aa (Ab 6) (Aa (Ab 3) (Aa (Ab 7) Ac)))))))
  (Bw [10] (Ao (Ak (isND true) (Ab 10) (eC .non)))
   (Af (Ah 11 [8,9,10] (Ap 3 n_2 (Aa (Ab 10) (Aa (Ab 9) (Aa (Ab 8) Ac)))))
  (Af (Ah 12 [10] (Ap 1 e_4 (Aa (Ab 10) Ac)))
  (Af (Ah 13 [12] (Ap 1 h_6 (Aa (Ab 12) Ac)))
  (Af (Bw [8,9,11,12,13] (tOrF (Ao (Ak Fb (Ap 3 n_2 (Aa (Ab 13) (Aa (Ab 9) (Aa (Ab 8) Ac)))) (Ab 11))) (Ao (Ak Fb (Ap 1 e_4 (Aa (Ab 13) Ac)) (Ab 12))))
   (An [] (eC (.bl false)))
   Bg)
  (Af (cs_2 (Bf "table" 0 J11 (Ab 13) Ac) (eC (.int 1)))
  (Af (Ah 14 [13] (Ap 1 h_6 (Aa (Ap 1 e_4 (Aa (Ab 13) Ac)) Ac)))
  (Af (Bw [8,9,11,13,14] (tOrF (Ao (Ak Fb (Ap 3 n_2 (Aa (Ab 14) (Aa (Ab 9) (Aa (Ab 8) Ac)))) (Ab 11))) (Ao (Ak Fb (Ap 3 n_2 (Aa (Ab 13) (Aa (Ab 9) (Aa (Ab 8) Ac)))) (Ab 11))))
   (An [] (eC (.bl false)))
   Bg)
  (Bw [1,6,9,10,12,14] (tOrF (Eo (Ao (Ak Cv (Ab 9) (eC (.int 2)))) (Ao (Ak Fb (Bt 1 (Cr (Ab 1)) (gC 15) (λ_=> .ok true) dt_1) (Ab 6)))) (Ao (Ak Fb (Ap 1 e_4 (Aa (Ab 10) Ac)) (Ab 12))))
   (An [] (eC (.bl false)))
   Bg))))))))
   Bg))
def bv_3:FS:=
  (Ah 1 [0] (Ap 3 u_9 (Aa (Ab 0) (Aa (eC (.int 2)) (Aa (eC (.int 40)) Ac)))))
def bv_4:FS:=
  (Ah 2 [0] (Ap 2 n_0 (Aa (Ab 0) (Aa (eC (.int 1)) Ac))))
def bv_5:FS:=
  (Ah 3 [2] (Ak Bu (eC (.int 1)) (Ak Dv (Ak Dq (Ab 2) (eC (.int 8))) (eC (.int 32)))))
def bv_6:FS:=
  (Ah 4 [] (eC (.int 1)))
def bv_7:FS:=
  (Cb [3] (Av Ch (Aa (Ab 3) Ac)) (gV 5) bv_2)
def bv_8:FS:=
  (Ah 6 [0,1,4] (Bt 1 (Av Ch (Aa (Aj By (Aa (Ab 1) Ac)) Ac)) (gC 15) (λ_=> .ok true) ae_6))
def bv_9:FS:=
  (Ah 7 [2] (Ak Bu (eC (.int 2)) (Ak Dv (Ak Dq (Ab 2) (eC (.int 4))) (eC (.int 2)))))
def bw_0:FS:=
  (Ah 8 [0,1] (Ak Bu (Ak Bu (Ab 1) (Ap 2 i_6 (Aa (Ab 0) (Aa (Ab 1) Ac)))) (Bt 1 (Av Ch (Aa (eC (.int 100)) Ac)) (gC 15) bb_7 (Ab 15))))
def bw_1:FS:=
  (Cb [2] (Cr (Dh (Aa (Ak Dv (Ab 2) (eC (.int 4))) (Aa (Ak Dv (Ak Bu (Ab 2) (eC (.int 1))) (eC (.int 4))) Ac)))) (gV 9) bb_8)
def di_3:FS:=
  (An [] (eC (.bl true)))
def dw_5:FS:=
  (Af bv_3
  (Af bv_4
  (Af bv_5
  (Af bv_6
  (Af bv_7
  (Af bv_8
  (Af bv_9
  (Af bw_0
  (Af bw_1
  di_3)))))))))
def di_4:List D->R W:=Ag 15 dw_5
end My
namespace L3
open PySem L2
def okD:Nat->D->Bool
 |_,.non=>true
 |_,.bl _=>true
 |_,.int _=>true
 |_,.str x=>x.cps.all (· < 0x110000)
 |n + 1,.lst ds=>ds.all (okD n)
 |n + 1,.tup ds=>ds.all (okD n)
 |_,_=>false
def di_5:∀(n:Nat) (d:D),okD n d=true->(Eb d).canLay0=true/\(Eb d).depth<=n/\(Eb d).eqv (Eb d)=true:=by
 intro n
 induction n with
 |zero=>
  intro d h;cases d with
  |non=>exact⟨rfl,Nat.le_refl _,rfl⟩
  |bl b=>exact⟨rfl,Nat.le_refl _,by cases b <;> rfl⟩
  |int i=>exact⟨rfl,Nat.le_refl _,by show(i ==i)=true;simp⟩
  |str x=>exact⟨h,Nat.le_refl _,by show(x ==x)=true;simp⟩
  |_=>cases h
 |succ n ih=>
  have all:∀ds:List D,ds.all (okD n)=true->PyData.canLayAll0 (Fk ds)=true/\PyData.depthAll (Fk ds)<=n/\PyData.eqvAll (Fk ds) (Fk ds)=true:=by
   intro ds
   induction ds with
   |nil=>intro _;exact⟨rfl,Nat.zero_le _,rfl⟩
   |cons d ds ih2=>
    intro h;rw [List.all_cons,Bool.and_eq_true] at h;obtain⟨a1,a2,a3⟩:=ih d h.1;obtain⟨b1,b2,b3⟩:=ih2 h.2;refine⟨?_, ?_, ?_⟩
    ·show(PyData.canLay0 (Eb d) && PyData.canLayAll0 (Fk ds))=true;rw [a1,b1];rfl
    ·show max (PyData.depth (Eb d)) (PyData.depthAll (Fk ds))<=n;exact Nat.max_le.mpr ⟨a2,b2⟩
    ·show(PyData.eqv (Eb d) (Eb d) && PyData.eqvAll (Fk ds) (Fk ds))=true;rw [a3,b3];rfl
  intro d h;cases d with
  |non=>exact⟨rfl,Nat.zero_le _,rfl⟩
  |bl b=>exact⟨rfl,Nat.zero_le _,by cases b <;> rfl⟩
  |int i=>exact⟨rfl,Nat.zero_le _,by show(i ==i)=true;simp⟩
  |str x=>exact⟨h,Nat.zero_le _,by show(x ==x)=true;simp⟩
  |lst ds=>
   obtain⟨b1,b2,b3⟩:=all ds h;exact⟨b1,Nat.succ_le_succ b2,b3⟩
  |tup ds=>
   obtain⟨b1,b2,b3⟩:=all ds h;exact⟨b1,Nat.succ_le_succ b2,b3⟩
  |_=>cases h
def di_6{n:Nat}{d:D}(h:okD n d=true)(hn:n<=60):eqC d d=true/\eqvD d d=true:=by
 obtain⟨a1,a2,a3⟩:=di_5 n d h;refine⟨?_,a3⟩;unfold eqC;rw [a1,decide_eq_true (Nat.le_trans a2 hn)];rfl
def bg_0{d:D}(n:Nat)(h:okD n d=true)(hn:n<=60:=by decide):Fb d d=.ok (.sh (.bl false)):=by
 obtain⟨h1,h2⟩:=di_6 h hn;unfold Fb
 split
 ·simp
 ·rw [if_pos h1,h2];rfl
theorem bo_6{α:Type}(f:α->Int):∀l:List α,bn_4 (l.map λa=>D.int (f a))=some (l.map f)
 | []=>rfl
 |a::l=>by
  show(bn_4 (l.map λa=>D.int (f a))).map (f a:: ·)=_;rw [bo_6 f l];rfl
def ed_0{α:Type}(f:α->Int)(l:List α):sumD [.lst (l.map λa=>D.int (f a))]=.ok (.sh (.int (l.map f).sum)):=by
 unfold sumD;simp only [bo_6]
def dw_6{n i:Nat}(h:i < n):ixN n (i:Int)=some i:=by
 unfold ixN;rw [if_pos (by omega),if_pos (by omega)];simp
def as_0{α:Type}{xs:List α}{i:Nat}{x:α}(h:xs[i]? =some x):atI xs (i:Int)=some x:=by
 unfold atI;rw [dw_6 (List.getElem?_eq_some_iff.mp h).1];exact h
end L3
namespace My
open PySem L2 L3
def ed_1{α:Type}(l:List α)(a:Nat)(h:a<=l.length):cutL l none (some (a:Int))=l.take a:=by
 unfold cutL;have e1:HT.sIx l.length 0 none=0:=rfl;have e2:HT.sIx l.length l.length (some (a:Int))=a:=by
  show(if(a:Int) < 0 then((a:Int) + (l.length:Int)).toNat else min (a:Int).toNat l.length)=a;rw [if_neg (by omega)];omega
 rw [e1,e2,List.drop_zero,Nat.sub_zero]
def Fo(c k:Int):Int:=((c + 1) * (48271 + 118 * k) % 2147483629 / 977 * 16807 + (c + 1) * (48271 + 118 * k) % 2147483629 * (k * k + 7) + k) % 2147483587
def ap_4(c k:Int)(h1: -1000<=k)(h2:k<=1000):j_6 [.int c,.int k]=.ok (.sh (.int (Fo c k))):=by
 have hk: -18446744073709551616 < k * k + 7/\k * k + 7 < 18446744073709551616:=by
  have:k * k<=1000 * 1000:=by
   rcases Int.le_total 0 k with h|h
   ·exact Int.mul_le_mul h2 h2 h (by decide)
   ·have:(-k) * (-k)<=1000 * 1000:=Int.mul_le_mul (by omega) (by omega) (by omega) (by decide)
    rwa [Int.neg_mul_neg] at this
  have:0<=k * k:=by
   rcases Int.le_total 0 k with h|h
   ·exact Int.mul_nonneg h h
   ·have:=Int.mul_nonneg (a:= -k) (b:= -k) (by omega) (by omega)
    rwa [Int.neg_mul_neg] at this
  omega
 have m1:Ei 118 k=true:=Gm (by decide) (by decide);have m2:Ei (c + 1) (48271 + 118 * k)=true:=av_1 (by omega) (by omega);have m3:∀z:Int,Ei z 16807=true:=λz=>av_1 (by decide) (by decide);have m4:Ei k k=true:=Gm (by omega) (by omega);have m5:∀z:Int,Ei z (k * k + 7)=true:=λz=>av_1 hk.1 hk.2
 simp_arith [j_6,bo_3,Am,Ep m1,Ep m2,Ep (m3 _),Ep m4,Ep (m5 _),Gw,x_7 (show(0:Int) < 977 by decide) (by decide),Fx (show(0:Int) < 2147483629 by decide),Fx (show(0:Int) < 2147483587 by decide)]
 rfl
def av_7(ns:List Int)(k:Int)(h:0<=k):n_0 [.lst (ns.map .int),.int k]=.ok (.sh (.int (ns.getD k.toNat 0))):=by
 simp_arith [n_0,bo_2,Am,k_3,Et,List.length_map]
 by_cases hk:k < (ns.length:Int)
 ·have e:atI (ns.map D.int) k=some (.int (ns.getD k.toNat 0)):=by
   apply dh_0 h;rw [List.getElem?_map];have:k.toNat < ns.length:=by omega
   simp [List.getD,this]
  simp_arith [hk,decide_true,if_true,bf_0 e,Am]
 ·simp_arith [hk,decide_false,Am]
  have:ns.length<=k.toNat:=by omega
  simp [List.getD,this]
def bb_9(ns:List Int)(k:Int)(h:0<=k)(h2:k<=500):∃z,j_9 [.lst (ns.map .int),.int k]=.ok (.sh (.int z)):=by
 refine⟨Fo (ns.getD k.toNat 0 % 2147483647) (k + 101), ?_⟩
 simp_arith [j_9,bf_3,Am,av_7 ns k h,Fx (show(0:Int) < 2147483647 by decide),Gw,ap_4 _ (k + 101) (by omega) (by omega)]
def cf_4(c:Int):∃z,n_5 [.int c]=.ok (.sh (.int z)):=by
 have m:∀z:Int,Ei z 2147483587=true:=λz=>av_1 (by decide) (by decide);refine⟨(Fo c 1 * 2147483587 + Fo c 2) * 2147483587 + Fo c 3, ?_⟩
 simp_arith [n_5,ax_5,Am,ap_4 c 1 (by decide) (by decide),ap_4 c 2 (by decide) (by decide),ap_4 c 3 (by decide) (by decide),Ep (m _),Gw]
def di_7(ns:List Int)(s m:Int)(hn:ns.length<=63)(h0:0<=s)(h1:s<=60)(h2:1<=m)(h3:m<=200):
  ∃cs:List Int,(cs.length:Int)<=m/\s_9 [.lst (ns.map .int),.int s,.int m]=.ok (.ow (.lst (cs.map .int))):=by
 obtain⟨z0,hz0⟩:=bb_9 ns 0 (by decide) (by decide)
 by_cases hp:ns.getD (0:Int).toNat 0 % 2=0
 ·obtain⟨cs,hl,hc⟩:=dw_2 (fg:=gC 5) (p:=λ_=> .ok true) (f:=Ap 2 n_0 (Aa (Ab 0) (Aa (Ak Bu (Ab 1) (Ab 5)) Ac)))
   (δ:=[some (.lst (ns.map .int)),some (.int s),some (.int m),some (.int (max 0 ((ns.length:Int) - s))),none,none]) (min m (max 0 ((ns.length:Int) - s))).toNat 0 (λk hk=>
    ⟨[some (.lst (ns.map .int)),some (.int s),some (.int m),some (.int (max 0 ((ns.length:Int) - s))),none,some (.int (0 + (k:Int)))],_,rfl,rfl,by
     simp_arith [Am,Gw,av_7 ns (s + (0 + (k:Int))) (by omega)]
     rfl⟩)
  refine⟨cs,by rw [hl];omega, ?_⟩;have e1:=Go (m:=1) (fi:=Av Ch (Aa (Aj minD (Aa (Ab 2) (Aa (Ab 3) Ac))) Ac)) (fg:=gC 5) (p:=λ_=> .ok true) (f:=Ap 2 n_0 (Aa (Ab 0) (Aa (Ak Bu (Ab 1) (Ab 5)) Ac)))
   (δ:=[some (.lst (ns.map .int)),some (.int s),some (.int m),some (.int (max 0 ((ns.length:Int) - s))),none]) (ds:=Ci 0 (min m (max 0 ((ns.length:Int) - s))).toNat) (rs:=cs.map .int) (by
    simp_arith [Am,cm_0,n_8 (show -4611686018427387903<=min m (max 0 ((ns.length:Int) - s)) by omega) (by omega)]) (by rw [k_8];omega) hc
  simp_arith [s_9,ai_3,aa_3,aa_4,Am,k_3,List.length_map,be_9,bt_4,av_7 ns 0 (by decide),Fx (show(0:Int) < 2 by decide),Ek,hp,e1]
 ·have hmm:=λk:Int=>Int.emod_nonneg k (show m≠0 by omega);have hml:=λk:Int=>Int.emod_lt_of_pos k (show 0 < m by omega);have bp:∀k:Nat,∃z,j_9 [.lst (ns.map .int),.int (s + (0 + (k:Int)) % max 1 (max 0 ((ns.length:Int) - s)))]=.ok (.sh (.int z)):=λk=>by
   have b1:=Int.emod_nonneg (0 + (k:Int)) (show max 1 (max 0 ((ns.length:Int) - s))≠0 by omega);have b2:=Int.emod_lt_of_pos (0 + (k:Int)) (show 0 < max 1 (max 0 ((ns.length:Int) - s)) by omega);exact bb_9 ns _ (by omega) (by omega)
  have b0:=hmm z0;have b1:=hml z0;obtain⟨cs,hl,hc⟩:=dw_2 (fg:=gC 5) (p:=λ_=> .ok true) (f:=Ap 1 n_5 (Aa (Ap 2 j_6 (Aa (Ap 2 j_9 (Aa (Ab 0) (Aa (Ak Bu (Ab 1) (Ak Dv (Ab 5) (Aj Fp (Aa (eC (.int 1)) (Aa (Ab 3) Ac))))) Ac))) (Aa (Ab 5) Ac))) Ac))
   (δ:=[some (.lst (ns.map .int)),some (.int s),some (.int m),some (.int (max 0 ((ns.length:Int) - s))),some (.int (min m (max (max 0 ((ns.length:Int) - s)) (1 + z0 % m)))),none]) (min m (max (max 0 ((ns.length:Int) - s)) (1 + z0 % m))).toNat 0 (λk hk=>by
    obtain⟨zc,hzc⟩:=bp k;obtain⟨zg,hzg⟩:=cf_4 (Fo zc (0 + (k:Int)));refine⟨[some (.lst (ns.map .int)),some (.int s),some (.int m),some (.int (max 0 ((ns.length:Int) - s))),some (.int (min m (max (max 0 ((ns.length:Int) - s)) (1 + z0 % m)))),some (.int (0 + (k:Int)))],zg,rfl,rfl, ?_⟩
    simp_arith [Am,Gw,bt_4,Fx (show 0 < max 1 (max 0 ((ns.length:Int) - s)) by omega),hzc,ap_4 zc (0 + (k:Int)) (by omega) (by omega),hzg])
  refine⟨cs,by rw [hl];omega, ?_⟩;have e1:=Go (m:=1) (fi:=Av Ch (Aa (Ab 4) Ac)) (fg:=gC 5) (p:=λ_=> .ok true) (f:=Ap 1 n_5 (Aa (Ap 2 j_6 (Aa (Ap 2 j_9 (Aa (Ab 0) (Aa (Ak Bu (Ab 1) (Ak Dv (Ab 5) (Aj Fp (Aa (eC (.int 1)) (Aa (Ab 3) Ac))))) Ac))) (Aa (Ab 5) Ac))) Ac))
   (δ:=[some (.lst (ns.map .int)),some (.int s),some (.int m),some (.int (max 0 ((ns.length:Int) - s))),some (.int (min m (max (max 0 ((ns.length:Int) - s)) (1 + z0 % m))))]) (ds:=Ci 0 (min m (max (max 0 ((ns.length:Int) - s)) (1 + z0 % m))).toNat) (rs:=cs.map .int) (by
    simp_arith [Am,n_8 (show -4611686018427387903<=min m (max (max 0 ((ns.length:Int) - s)) (1 + z0 % m)) by omega) (by omega)]) (by rw [k_8];omega) hc
  simp_arith [s_9,ai_3,aa_3,aa_4,Am,k_3,List.length_map,be_9,bt_4,cm_0,Gw,av_7 ns 0 (by decide),Fx (show(0:Int) < 2 by decide),Fx (show(0:Int) < m by omega),Ek,hp,hz0,e1]
def Bq{g h:FS}{Δ Δ':SE}(e:g Δ=.nx Δ'):Af g h Δ=h Δ':=by unfold Af;rw [e]
def wr:Nat->Int->List Nat->List Nat
 |0,_,zp=>zp
 |j + 1,r,zp=>wr j (r / 2) ((48 + (r % 2).toNat)::zp)
def rd(bs:List Nat)(a:Int):Int:=bs.foldl (λa c=>2 * a + (if c=49 then 1 else 0)) a
def bit(c:Nat):Prop:=c=48\/c=49
theorem ap_5:∀(w:Nat) (n:Int) (zp:List Nat),(wr w n zp).length=w + zp.length
 |0,_,zp=>by simp [wr]
 |w + 1,n,zp=>by rw [wr,ap_5 w];simp;omega
theorem di_8:∀(w:Nat) (n:Int) (zp:List Nat),(∀c∈zp,bit c)->∀c∈wr w n zp,bit c
 |0,_,zp,h=>h
 |w + 1,n,zp,h=>di_8 w (n / 2) _ λc hc=>by
  rcases List.mem_cons.mp hc with rfl|hc
  ·have:n % 2=0\/n % 2=1:=by omega
   rcases this with e|e <;> rw [e]
   ·exact .inl rfl
   ·exact .inr rfl
  ·exact h c hc
def ed_2(a b:List Nat)(z:Int):rd (a ++ b) z=rd b (rd a z):=by unfold rd;rw [List.foldl_append]
theorem dw_7:∀(w:Nat) (n:Int) (zp:List Nat) (a:Int),rd (wr w n zp) a=rd zp (a * 2 ^ w + n % 2 ^ w)
 |0,n,zp,a=>by
  show rd zp a=rd zp (a * 1 + n % 1);rw [Int.mul_one,Int.emod_one,Int.add_zero]
 |w + 1,n,zp,a=>by
  rw [wr,dw_7 w];show rd zp (2 * (a * 2 ^ w + n / 2 % 2 ^ w) + (if 48 + (n % 2).toNat=49 then 1 else 0))=_;have e:(if 48 + (n % 2).toNat=49 then(1:Int) else 0)=n % 2:=by split <;> omega
  have p:n % 2 ^ (w + 1)=2 * (n / 2 % 2 ^ w) + n % 2:=by
   have pos:(0:Int) < 2 ^ w:=Int.pow_pos (by decide);have e1:(2:Int) ^ (w + 1)=2 * 2 ^ w:=by rw [Int.pow_succ];omega
   rw [e1];have h1:=Int.mul_ediv_add_emod n 2;have h2:=Int.mul_ediv_add_emod (n / 2) (2 ^ w);have h3:=Int.emod_nonneg (n / 2) (show(2:Int) ^ w≠0 by omega);have h4:=Int.emod_lt_of_pos (n / 2) pos;have key:n=(2 * (n / 2 % 2 ^ w) + n % 2) + (2 * 2 ^ w) * (n / 2 / 2 ^ w):=by
    have:(2 * 2 ^ w:Int) * (n / 2 / 2 ^ w)=2 * (2 ^ w * (n / 2 / 2 ^ w)):=by rw [Int.mul_assoc]
    omega
   have h5:(2 * (n / 2 % 2 ^ w) + n % 2) % (2 * 2 ^ w)=2 * (n / 2 % 2 ^ w) + n % 2:=Int.emod_eq_of_lt (by omega) (by omega)
   conv=>lhs;rw [key]
   rw [Int.add_mul_emod_self_left,h5]
  have q:a * 2 ^ (w + 1)=2 * (a * 2 ^ w):=by rw [Int.pow_succ,<-Int.mul_assoc,Int.mul_comm]
  rw [e,p,q]
  congr 1
  omega
def ed_3(w:Nat)(n:Int)(h0:0<=n)(h1:n < 2 ^ w):rd (wr w n []) 0=n:=by
 rw [dw_7,Int.zero_mul,Int.zero_add,Int.emod_eq_of_lt h0 h1];rfl
def Bd(l:List Nat):Str:=⟨l.toArray⟩
def l_5(l:List Nat):(Bd l).cps.toList=l:=by simp [Bd]
def u_5(l:List Nat):(Bd l).length=l.length:=by rw [x_1,l_5]
def cs_6(a b:List Nat):Bd a ++ Bd b=Bd (a ++ b):=bt_3 (by rw [dr_6,l_5,l_5,l_5])
def sgL:List Nat:=[97,98,99,100,101,102,103,104,105,106,107,108,109,110,111,112,113,114,115,116,117,118,119,120,121,122,48,49,50,51,52,53,54,55,56,57,45,95,32]
def dt_2:(Str.ofString "abcdefghijklmnopqrstuvwxyz0123456789-_ ").cps.toList=sgL:=by decide +kernel
def isKey(d:D):Prop:=(∃n:Int,d=.int n/\0<=n/\n<=999999999999999999)\/(∃l:List Nat,d=.str (Bd l)/\l.length<=11/\∀c∈l,c∈sgL)
def isKey.flat{d:D}(h:isKey d):Bc d=true:=by
 rcases h with⟨n,rfl,_⟩|⟨l,rfl,_⟩ <;> rfl
def ej_1(r:Int):∃c∈sgL,Cf (.str "abcdefghijklmnopqrstuvwxyz0123456789-_ ") (.int (r % 39))=.ok (.sh (.str (Bd [c]))):=by
 have h0:=Int.emod_nonneg r (show(39:Int)≠0 by decide);have h1:=Int.emod_lt_of_pos r (show(0:Int) < 39 by decide);have hl:(r % 39).toNat < sgL.length:=by show(r % 39).toNat < 39;omega
 refine⟨sgL[(r % 39).toNat],List.getElem_mem hl,dr_9 (by decide +kernel) ?_⟩;rw [dt_2];exact dh_0 h0 (List.getElem?_eq_getElem hl)
def cn_0(z:Int):∃d,isKey d/\q_0 [.int z]=.ok (.sh d):=by
 have d3:=x_7 (i:=z) (show(0:Int) < 3 by decide) (by decide);have m3:=Fx (i:=z) (show(0:Int) < 3 by decide);have p18:=ec_6 (dg_9 (i:=10) (j:=18) (by decide) (by decide) (by decide) (by decide));have e18:(10:Int) ^ (18:Int).toNat=1000000000000000000:=by decide
 rw [e18] at p18;have:z % 3=0\/z % 3=2\/z % 3=1:=by omega
 rcases this with h|h|h
 ·refine⟨.int (z / 3 % 1000000000000000000),.inl ⟨_,rfl,by omega,by omega⟩, ?_⟩
  simp_arith [q_0,ak_7,Am,d3,m3,Ek,h,p18,Fx (show(0:Int) < 1000000000000000000 by decide)]
 ·refine⟨.int (z / 3 % 50),.inl ⟨_,rfl,by omega,by omega⟩, ?_⟩;have n0:¬(2:Int)=0:=by decide
  simp_arith [q_0,ak_7,Am,d3,m3,Ek,h,n0,Fx (show(0:Int) < 50 by decide)]
 ·have n0:¬(1:Int)=0:=by decide
  have n2:¬(1:Int)=2:=by decide
  have b0:=Int.emod_nonneg (z / 3) (show(12:Int)≠0 by decide);have b1:=Int.emod_lt_of_pos (z / 3) (show(0:Int) < 12 by decide);obtain⟨Δ',e,l,r,a5,rfl,hl,hc⟩:=ak_5 (gV 5) ai_4 (λk Δ=>∃(l:List Nat) (r:Int) (a5:Sl),Δ= [.sh (.int z),.sh (.str "abcdefghijklmnopqrstuvwxyz0123456789-_ "),.sh (.int r),.sh (.str (Bd l)),.sh (.int (z / 3 % 12)),a5]/\l.length=k/\∀c∈l,c∈sgL)
   (n:=(z / 3 % 12).toNat) (lo:=0) (Δ:=[.sh (.int z),.sh (.str "abcdefghijklmnopqrstuvwxyz0123456789-_ "),.sh (.int (z / 3)),.sh (.str ""),.sh (.int (z / 3 % 12)),.no]) ⟨[],z / 3,.no,rfl,rfl,λc hc=>absurd hc (by simp)⟩ (λk Δ hk hI=>by
   obtain⟨l,r,a5,rfl,hl,hc⟩:=hI;obtain⟨q,q0,q1,eq⟩:∃q:Int,0 < q/\q < 100/\Ak Cf (Dh (Aa (eC (.int 12)) (Aa (eC (.int 39)) Ac))) (Aj bm_8 (Aa (Ak gtD (Ab 5) (eC (.int 0))) Ac)) [some (.int z),some (.str "abcdefghijklmnopqrstuvwxyz0123456789-_ "),some (.int r),some (.str (Bd l)),some (.int (z / 3 % 12)),some (.int (0 + (k:Int)))]=.ok (.sh (.int q)):=by
    by_cases hk0:(0:Int) < 0 + (k:Int)
    ·refine⟨39,by decide,by decide, ?_⟩
     simp_arith [Am,cc_7,hk0,bm_8]
     rfl
    ·refine⟨12,by decide,by decide, ?_⟩
     simp_arith [Am,cc_7,hk0,bm_8]
     rfl
   obtain⟨c,hcs,ec⟩:=ej_1 (r / q);have zm:(Bd l).length + (Bd [c]).length<=16777216:=by rw [u_5,u_5];simp;omega
   refine⟨_,rfl,[.sh (.int z),.sh (.str "abcdefghijklmnopqrstuvwxyz0123456789-_ "),.sh (.int (r / q)),.sh (.str (Bd (l ++ [c]))),.sh (.int (z / 3 % 12)),.sh (.int (0 + (k:Int)))],.inl ?_,_,_,_,rfl,by simp [hl], ?_⟩
   ·simp only [ai_4];rw [Bq (Δ':=[.sh (.int z),.sh (.str "abcdefghijklmnopqrstuvwxyz0123456789-_ "),.sh (.int (r / q)),.sh (.str (Bd l)),.sh (.int (z / 3 % 12)),.sh (.int (0 + (k:Int)))])]
    ·simp_arith [Am,Fx (show(0:Int) < 39 by decide),ec,dg_8 zm,cs_6]
    ·have:=eq;unfold Ah;simp only [Bb,List.map_cons,List.map_nil,cm_1,List.set_cons_succ,List.set_cons_zero,gV] at this⊢;have e9:Ak Dq (Ab 2) (Ak Cf (Dh (Aa (eC (.int 12)) (Aa (eC (.int 39)) Ac))) (Aj bm_8 (Aa (Ak gtD (Ab 5) (eC (.int 0))) Ac))) [some (.int z),some (.str "abcdefghijklmnopqrstuvwxyz0123456789-_ "),some (.int r),some (.str (Bd l)),some (.int (z / 3 % 12)),some (.int (0 + (k:Int)))]=.ok (.sh (.int (r / q))):=by
      show((Ab 2 _).bind λa=>(Ak Cf _ _ _).bind λb=>Dq a.d b.d)=_;rw [this]
      simp_arith [Am,x_7 q0 (show q < 1361129467683753853853498429727072845824 by omega)]
     rw [e9]
   ·intro d hd;rcases List.mem_append.mp hd with hd|hd
    ·exact hc d hd
    ·have:d=c:=by simpa using hd
     rw [this];exact hcs)
  refine⟨.str (Bd l),.inr ⟨l,rfl,by omega,hc⟩, ?_⟩
  simp_arith [q_0,ak_7,Am,d3,m3,Ek,h,n0,n2,Fx (show(0:Int) < 12 by decide),Cb,n_8 (show -4611686018427387903<=z / 3 % 12 by omega) (by omega),e]
def cs_7{a b:D}(ha:isKey a)(hb:isKey b):eqF a b=true↔a=b:=by
 rcases ha with⟨n,rfl,_⟩|⟨l,rfl,_⟩ <;> rcases hb with⟨m,rfl,_⟩|⟨k,rfl,_⟩
 ·show(n ==m)=true↔_;rw [beq_iff_eq];exact⟨λh=>by rw [h],λh=>by injection h⟩
 ·show false=true↔_;exact⟨λh=>(by cases h),λh=>(by cases h)⟩
 ·show false=true↔_;exact⟨λh=>(by cases h),λh=>(by cases h)⟩
 ·show(Bd l ==Bd k)=true↔_;rw [beq_iff_eq];exact⟨λh=>by rw [h],λh=>by injection h⟩
def dt_3{d:D}{ks:List D}(hd:isKey d)(hk:∀k∈ks,isKey k):Cm d ks=true↔d∈ks:=by
 unfold Cm;rw [List.any_eq_true];constructor
 ·rintro ⟨y,hy,h⟩
  rw [<-(cs_7 (hk y hy) hd).mp h];exact hy
 ·intro h;exact⟨d,h,(cs_7 hd hd).mpr rfl⟩
def cf_5{ks:List D}(hk:∀k∈ks,isKey k):ks.all Bc=true:=List.all_eq_true.mpr λk h=>(hk k h).flat
def cf_6{d:D}{ks:List D}(hd:isKey d)(hk:∀k∈ks,isKey k):inD true d (.lst ks)=.ok (.sh (.bl (!Cm d ks))):=by
 have h:(Bc d && ks.all Bc)=true:=by rw [hd.flat,cf_5 hk];rfl
 rcases hd with⟨n,rfl,_⟩|⟨l,rfl,_⟩
 ·exact if_pos h
 ·exact if_pos h
def dt_4{d:D}(h:isKey d):PyData.canLay0 (Eb d)=true/\PyData.depth (Eb d)=0:=by
 rcases h with⟨n,rfl,_⟩|⟨l,rfl,_,hc⟩
 ·exact⟨rfl,rfl⟩
 ·refine⟨?_,rfl⟩;show(Bd l).cps.all (· < 0x110000)=true;rw [<-Array.all_toList,l_5,List.all_eq_true];intro c h;have:c∈sgL:=hc c h;have:∀c∈sgL,c < 0x110000:=by decide
  exact decide_eq_true (this c (hc c h))
theorem as_1:∀{ks:List D},(∀k∈ks,isKey k)->PyData.canLayAll0 (Fk ks)=true/\PyData.depthAll (Fk ks)=0
 | [],_=>⟨rfl,rfl⟩
 |k::ks,h=>by
  obtain⟨a1,a2⟩:=dt_4 (h k List.mem_cons_self);obtain⟨b1,b2⟩:=as_1 λx hx=>h x (List.mem_cons_of_mem _ hx);refine⟨?_, ?_⟩
  ·show(PyData.canLay0 (Eb k) && PyData.canLayAll0 (Fk ks))=true;rw [a1,b1];rfl
  ·show max (PyData.depth (Eb k)) (PyData.depthAll (Fk ks))=0;rw [a2,b2];rfl
def cf_7{ks js:List D}(hk:∀k∈ks,isKey k)(hj:∀k∈js,isKey k):eqC (.lst ks) (.lst js)=true:=by
 unfold eqC;rw [Bool.and_eq_true,Bool.and_eq_true];refine⟨⟨(as_1 hk).1,(as_1 hj).1⟩,decide_eq_true ?_⟩;show PyData.depthAll (Fk ks) + 1<=60;rw [(as_1 hk).2];decide
def dt_5{a b:D}(ha:isKey a)(hb:isKey b):PyData.eqv (Eb a) (Eb b)=true↔a=b:=by
 rcases ha with⟨n,rfl,_⟩|⟨l,rfl,_⟩ <;> rcases hb with⟨m,rfl,_⟩|⟨k,rfl,_⟩
 ·show(n ==m)=true↔_;rw [beq_iff_eq];exact⟨λh=>by rw [h],λh=>by injection h⟩
 ·show false=true↔_;exact⟨λh=>(by cases h),λh=>(by cases h)⟩
 ·show false=true↔_;exact⟨λh=>(by cases h),λh=>(by cases h)⟩
 ·show(Bd l ==Bd k)=true↔_;rw [beq_iff_eq];exact⟨λh=>by rw [h],λh=>by injection h⟩
theorem cf_8:∀{ks js:List D},(∀k∈ks,isKey k)->(∀k∈js,isKey k)->(PyData.eqvAll (Fk ks) (Fk js)=true↔ks=js)
 | [],[],_,_=>⟨λ_=>rfl,λ_=>rfl⟩
 | [],_::_,_,_=>⟨λh=>(by cases h),λh=>(by cases h)⟩
 |_::_,[],_,_=>⟨λh=>(by cases h),λh=>(by cases h)⟩
 |k::ks,j::js,hk,hj=>by
  show(PyData.eqv (Eb k) (Eb j) && PyData.eqvAll (Fk ks) (Fk js))=true↔_;rw [Bool.and_eq_true,dt_5 (hk k List.mem_cons_self) (hj j List.mem_cons_self),cf_8 (λx hx=>hk x (List.mem_cons_of_mem _ hx)) (λx hx=>hj x (List.mem_cons_of_mem _ hx))];exact⟨λ⟨a,b⟩=>by rw [a,b],λh=>by injection h with a b;exact⟨a,b⟩⟩
def dt_6(a b:List D):Cv (.lst a) (.lst b)=if eqC (.lst a) (.lst b)=true then .ok (.sh (.bl (eqvD (.lst a) (.lst b)))) else .no:=rfl
def dt_7(a b:List D):Fb (.lst a) (.lst b)=if eqC (.lst a) (.lst b)=true then .ok (.sh (.bl (!eqvD (.lst a) (.lst b)))) else .no:=rfl
def di_9{ks js:List D}(hk:∀k∈ks,isKey k)(hj:∀k∈js,isKey k):∃b:Bool,(b=true↔ks=js)/\Cv (.lst ks) (.lst js)=.ok (.sh (.bl b))/\Fb (.lst ks) (.lst js)=.ok (.sh (.bl (!b))):=by
 refine⟨eqvD (.lst ks) (.lst js),cf_8 hk hj, ?_, ?_⟩
 ·rw [dt_6,if_pos (cf_7 hk hj)]
 ·rw [dt_7,if_pos (cf_7 hk hj)]
def dt_8(ns:List Int)(s m:Int)(hn:ns.length<=63)(h0:0<=s)(h1:s<=60)(h2:1<=m)(h3:m<=200):
  ∃ks:List D,ks≠ []/\(ks.length:Int)<=m/\(∀k∈ks,isKey k)/\ks.Nodup/\u_9 [.lst (ns.map .int),.int s,.int m]=.ok (.ow (.lst ks)):=by
 obtain⟨cs,hc,ec⟩:=di_7 ns s m hn h0 h1 h2 h3;obtain⟨Δ',e,ks,a4,a5,rfl,hl,hk,hd⟩:=h_9 (gV 4) x_3 (λk Δ=>∃(ks:List D) (a4 a5:Sl),Δ= [.sh (.lst (ns.map .int)),.sh (.int s),.sh (.int m),.ow (.lst ks),a4,a5]/\ks.length<=k/\(∀k∈ks,isKey k)/\ks.Nodup)
  (ds:=cs.map .int) (Δ:=[.sh (.lst (ns.map .int)),.sh (.int s),.sh (.int m),.ow (.lst []),.no,.no]) ⟨[],.no,.no,rfl,Nat.le_refl _,λk hk=>absurd hk (by simp),List.nodup_nil⟩ (λk d Δ hk hI=>by
  obtain⟨ks,a4,a5,rfl,hl,hks,hd⟩:=hI;rw [List.getElem?_map] at hk;cases q:cs[k]? with
  |none=>rw [q] at hk;cases hk
  |some c=>
   rw [q] at hk;cases hk;have hkl:k < cs.length:=(List.getElem?_eq_some_iff.mp q).1;obtain⟨d,hdk,ed⟩:=cn_0 c;have hl2:ks.length < 16777216:=by omega
   have hni:=cf_6 hdk hks;cases hm:Cm d ks with
   |true=>
    refine⟨_,rfl,[.sh (.lst (ns.map .int)),.sh (.int s),.sh (.int m),.ow (.lst ks),.sh (.int c),.sh d],.inl ?_,ks,_,_,rfl,by omega,hks,hd⟩;rw [hm] at hni
    simp_arith [x_3,Am,ed,hni]
   |false=>
    refine⟨_,rfl,[.sh (.lst (ns.map .int)),.sh (.int s),.sh (.int m),.ow (.lst (ks ++ [d])),.sh (.int c),.sh d],.inl ?_,ks ++ [d],_,_,rfl,by simp;omega, ?_, ?_⟩
    ·rw [hm] at hni
     simp_arith [x_3,Am,ed,hni,Ef,hl2]
    ·intro x hx;rcases List.mem_append.mp hx with hx|hx
     ·exact hks x hx
     ·have:x=d:=by simpa using hx
      rw [this];exact hdk
    ·rw [List.nodup_append];refine⟨hd,by simp,λa ha b hb=> ?_⟩;have:b=d:=by simpa using hb
     subst this
     rintro rfl
     rw [(dt_3 hdk hks).mpr ha] at hm;cases hm)
 rw [List.length_map] at hl;obtain⟨b,hb,eb,_⟩:=di_9 hk (js:=[]) (λk hk=>absurd hk (by simp))
 by_cases hz:ks= []
 ·obtain⟨d,hdk,ed⟩:=cn_0 (ns.getD (0:Int).toNat 0 / 2);refine⟨[d],by simp,by simp;omega,λx hx=> ?_,by simp, ?_⟩
  ·have:x=d:=by simpa using hx
   rw [this];exact hdk
  ·have:b=true:=hb.mpr hz;subst this
   simp_arith [u_9,ao_8,Am,Cb,ec,e,eb,av_7 ns 0 (by decide),x_7 (show(0:Int) < 2 by decide) (by decide),ed]
 ·refine⟨ks,hz,by omega,hk,hd, ?_⟩;have:b=false:=by
   cases b with
   |true=>exact absurd (hb.mp rfl) hz
   |false=>rfl
  subst this
  simp_arith [u_9,ao_8,Am,Cb,ec,e,eb]
def sgI(c:Nat):Nat:=sgL.idxOf c
def ed_4:∀c∈sgL,Builtin.Str.occurrences "abcdefghijklmnopqrstuvwxyz0123456789-_ " ⟨#[c]⟩ 0 (Str.length "abcdefghijklmnopqrstuvwxyz0123456789-_ ") 1= [sgI c]:=by decide +kernel
def ap_6(l:List Nat):Int:=l.foldl (λa c=>40 * a + (sgI c:Int) + 1) 0
def cf_9(l:List Nat)(k c:Nat)(h:l[k]? =some c):ap_6 (l.take (k + 1))=40 * ap_6 (l.take k) + (sgI c:Int) + 1:=by
 unfold ap_6;rw [List.take_add_one,h,List.foldl_append];rfl
def q_4:D->Int
 | .int n=>2 * n
 | .str x=>2 * ap_6 x.cps.toList + 1
 |_=>0
def dj_0:∀c∈sgL,Txt.find "abcdefghijklmnopqrstuvwxyz0123456789-_ " ⟨#[c]⟩=((sgI c:Nat):Int):=by decide +kernel
def dt_9{c:Nat}(h:c∈sgL):cb_5 (.str "abcdefghijklmnopqrstuvwxyz0123456789-_ ") [.str ⟨#[c]⟩]=.ok (.sh (.int (sgI c:Int))):=by
 show R.ok (W.sh (D.int (Txt.find "abcdefghijklmnopqrstuvwxyz0123456789-_ " ⟨#[c]⟩)))=_;rw [dj_0 c h]
def ej_2{c:Nat}(h:c∈sgL):inD false (.str ⟨#[c]⟩) (.str "abcdefghijklmnopqrstuvwxyz0123456789-_ ")=.ok (.sh (.bl true)):=by
 show R.ok (W.sh (D.bl (!(Builtin.Str.occurrences "abcdefghijklmnopqrstuvwxyz0123456789-_ " ⟨#[c]⟩ 0 (Str.length "abcdefghijklmnopqrstuvwxyz0123456789-_ ") 1).isEmpty)))=_;rw [ed_4 c h];rfl
def aj_4(l:List Nat):t_8 (Bd l)=l.map λc=> .str ⟨#[c]⟩:=by unfold t_8;rw [l_5]
def dj_1(l:List Nat)(hl:l.length<=11)(hc:∀c∈l,c∈sgL):ar_6 [.str (Bd l)]=.ok (.sh (.int (ap_6 l))):=by
 obtain⟨Δ',e,a2,rfl⟩:=h_9 (gV 2) av_4 (λk Δ=>∃a2,Δ= [.sh (.str (Bd l)),.sh (.int (ap_6 (l.take k))),a2]) (ds:=t_8 (Bd l)) (Δ:=[.sh (.str (Bd l)),.sh (.int 0),.no]) ⟨.no,rfl⟩ (λk d Δ hk hI=>by
  obtain⟨a2,rfl⟩:=hI;rw [aj_4,List.getElem?_map] at hk;cases q:l[k]? with
  |none=>rw [q] at hk;cases hk
  |some c=>
   rw [q] at hk;cases hk;refine⟨_,rfl,[.sh (.str (Bd l)),.sh (.int (ap_6 (l.take (k + 1)))),.sh (.str ⟨#[c]⟩)],.inl ?_,_,rfl⟩;rw [cf_9 l k c q]
   simp_arith [av_4,Am,Ep (Gm (show(-18446744073709551616:Int) < 40 by decide) (by decide)),beq_self_eq_true,dt_9 (hc c (List.mem_of_getElem? q)),Gw])
 rw [aj_4,List.length_map,List.take_length] at e
 simp_arith [ar_6,cs_4,Am,Cb,aj_4,e]
def bo_7{d:D}(h:isKey d):x_9 [d]=.ok (.sh (.bl true)):=by
 rcases h with⟨n,rfl,h0,h1⟩|⟨l,rfl,hl,hc⟩
 ·simp_arith [x_9,bf_4,Am,ao_3,cr_9,h0,h1]
 ·have hx:(Bd l).length<=16777216:=by rw [u_5];omega
  have ec:=m_9 (fg:=gC 1) (f:=r_9) (δ:=[some (.str (Bd l)),none]) (λ_=> .bl true) (t_8 (Bd l)) (λd hd=>by
   rw [aj_4] at hd;obtain⟨c,hcl,rfl⟩:=List.mem_map.mp hd;exact⟨_,.sh (.bl true),rfl,by simp_arith [r_9,Am,ej_2 (hc c hcl)],rfl⟩)
  have ec':=Go (m:=1) (fi:=Cr (Ab 0)) (fg:=gC 1) (p:=λ_=> .ok true) (f:=r_9) (δ:=[some (.str (Bd l))]) (by simp_arith [Am]) (by rw [aj_4,List.length_map];omega) ec;have ha:allD [.lst ((t_8 (Bd l)).map λ_=>D.bl true)]=.ok (.sh (.bl true)):=by
   have hb:∀l:List D,au_7 (l.map λ_=>D.bl true)=some (l.map λ_=>true):=by
    intro l
    induction l with
    |nil=>rfl
    |cons a l ih=>show(au_7 (l.map λ_=>D.bl true)).map (true:: ·)=_;rw [ih];rfl
   unfold allD;simp only [hb]
   congr 3
   rw [List.all_eq_true];intro b hb';obtain⟨_,_,rfl⟩:=List.mem_map.mp hb';rfl
  have dh:((Bd l).length:Int)<=11:=by rw [u_5];omega
  have et:q_7 [.str (Bd l)]=.ok (.sh (.bl true)):=by
   simp_arith [q_7,am_2,Am,ar_3 hx,cr_9,dh,ec',ha]
  simp_arith [x_9,bf_4,Am,et]
def cg_0{d:D}(h:isKey d):ae_0 [d]=.ok (.sh (.int (q_4 d))):=by
 have hk:=bo_7 h;have m2:=λj:Int=>Ep (Gm (j:=j) (show(-18446744073709551616:Int) < 2 by decide) (by decide));rcases h with⟨n,rfl,h0,h1⟩|⟨l,rfl,hl,hc⟩
 ·simp_arith [ae_0,bu_9,Am,hk,m2,q_4]
 ·simp_arith [ae_0,bu_9,Am,hk,dj_1 l hl hc,m2,Gw,q_4,l_5]
def Ge(n s z:Int):Int:=
 (((1 + (1103515245 * s + 12345) % (2305843009213693951 - 1)) * n + (69069 * s * s + 7 * s) % 2305843009213693951) % 2305843009213693951 + ((1 + (1103515245 * s + 12345) % (2305843009213693951 - 1)) * n + (69069 * s * s + 7 * s) % 2305843009213693951) % 2305843009213693951 / 2147483648) % z
def cg_1(n s z:Int)(h1: -18446744073709551616 < s)(h2:s < 18446744073709551616)(hz:0 < z):ak_8 [.int n,.int s,.int z]=.ok (.sh (.int (Ge n s z)))/\True:=by
 have n0:¬z=0:=by omega
 have f0:=Int.emod_nonneg (1103515245 * s + 12345) (show(2305843009213693951 - 1:Int)≠0 by decide);have f1:=Int.emod_lt_of_pos (1103515245 * s + 12345) (show(0:Int) < 2305843009213693951 - 1 by decide);have a1:=Ep (Gm (i:=1103515245) (j:=s) (by decide) (by decide));have a2:=Ep (Gm (i:=69069) (j:=s) (by decide) (by decide));have a3:=Ep (av_1 (i:=69069 * s) (j:=s) h1 h2);have a4:=Ep (Gm (i:=7) (j:=s) (by decide) (by decide));have a5:=Ep (Gm (i:=1 + (1103515245 * s + 12345) % (2305843009213693951 - 1)) (j:=n) (by omega) (by omega));have c1:=λi:Int=>Fx (i:=i) (show(0:Int) < 2305843009213693951 - 1 by decide);have c2:=λi:Int=>Fx (i:=i) (show(0:Int) < 2305843009213693951 by decide);have c3:=λi:Int=>Fx (i:=i) hz;have c4:=λi:Int=>x_7 (i:=i) (show(0:Int) < 2147483648 by decide) (by decide);refine⟨?_, ?_⟩
 ·simp_arith [ak_8,cs_5,Am,Ek,n0,be_9,Gw,a1,a2,a3,a4,c1,c2,a5,c4,c3]
  rfl
 ·trivial
end My
namespace L3
open PySem L2
def outF:Fl->Bool
 | .ex _ _=>true
 | .rt _=>true
 | .no=>true
 |_=>false
def dj_2(fg:FG)(g:FS)(I:Nat->SE->Prop){ds:List D}{Δ:SE}{n:Nat}{r:Fl}{d:D}(h0:I 0 Δ)(hd:ds[n]? =some d)
  (step:∀k d Δ,k < n->ds[k]? =some d->I k Δ->∃Δ1,fg d Δ=.ok Δ1/\∃Δ2,(g Δ1=.nx Δ2\/g Δ1=.ct Δ2)/\I (k + 1) Δ2)
  (last:∀Δ,I n Δ->∃Δ1,fg d Δ=.ok Δ1/\g Δ1=r) (hr:outF r=true):Ey fg g ds Δ=r:=by
 have all:∀(m k:Nat) (Δ:SE),k + m=n->I k Δ->Ey fg g (ds.drop k) Δ=r:=by
  intro m
  induction m with
  |zero=>
   intro k Δ e h;have:k=n:=by omega
   subst this;have hl:k < ds.length:=(List.getElem?_eq_some_iff.mp hd).1;obtain⟨x,d1,d2⟩:=ab_9 hl;rw [hd] at d1;cases d1;obtain⟨Δ1,e1,e2⟩:=last Δ h;rw [d2];show(match fg d Δ with
    | .ok Δ1=>(match g Δ1 with
     | .nx Δ2=>Ey fg g (ds.drop (k + 1)) Δ2
     | .ct Δ2=>Ey fg g (ds.drop (k + 1)) Δ2
     | .bk Δ2=> .nx Δ2
     |r=>r)
    | .ex _=> .no
    | .no=> .no)=_
   rw [e1];simp only [e2];cases r with
   |nx _=>cases hr
   |ct _=>cases hr
   |bk _=>cases hr
   |_=>rfl
  |succ m ih=>
   intro k Δ e h;have hl:n < ds.length:=(List.getElem?_eq_some_iff.mp hd).1;obtain⟨x,d1,d2⟩:=ab_9 (l:=ds) (i:=k) (by omega);obtain⟨Δ1,e1,Δ2,e2,h2⟩:=step k x Δ (by omega) d1 h;have e3:=ih (k + 1) Δ2 (by omega) h2;rw [d2];show(match fg x Δ with
    | .ok Δ1=>(match g Δ1 with
     | .nx Δ2=>Ey fg g (ds.drop (k + 1)) Δ2
     | .ct Δ2=>Ey fg g (ds.drop (k + 1)) Δ2
     | .bk Δ2=> .nx Δ2
     |r=>r)
    | .ex _=> .no
    | .no=> .no)=_
   rw [e1];rcases e2 with e2|e2
   ·simp only [e2];exact e3
   ·simp only [e2];exact e3
 have:=all n 0 Δ (by omega) h0
 rwa [List.drop_zero] at this
end L3
namespace My
open PySem L2 L3
def kOf:D->At
 | .int i=> .inl i
 | .str x=> .inr x
 |_=> .inl 0
def dj_3{d:D}(h:isKey d):Di d=some (kOf d):=by
 rcases h with⟨n,rfl,_⟩|⟨l,rfl,_⟩ <;> rfl
def cs_8{a b:D}(ha:isKey a)(hb:isKey b)(e:kOf a=kOf b):a=b:=by
 rcases ha with⟨n,rfl,_⟩|⟨l,rfl,_⟩ <;> rcases hb with⟨m,rfl,_⟩|⟨k,rfl,_⟩
 ·injection e with e;rw [e]
 ·cases e
 ·cases e
 ·injection e with e;rw [e]
def cs_9{ks:List D}(hk:∀k∈ks,isKey k):i_7 [.lst ks]=.ok (.sh .non):=by
 obtain⟨Δ',e,a1,a2,rfl⟩:=h_9 (Fj 1 2) u_0 (λk Δ=>∃a1 a2,Δ= [.sh (.lst ks),a1,a2]) (ds:=Fg 0 ks) (Δ:=[.sh (.lst ks),.no,.no]) ⟨_,_,rfl⟩ (λk d Δ hd hI=>by
  obtain⟨a1,a2,rfl⟩:=hI;obtain⟨d',e1,rfl⟩:=p_9 hd;refine⟨_,rfl,_,.inl ?_,.sh (.int ((0 + k:Nat):Int)),.sh d',rfl⟩
  simp_arith [u_0,Am,bo_7 (hk d' (List.mem_of_getElem? e1))])
 simp_arith [i_7,af_3,Am,Cb,u_8,au_6,e]
def z_6(ks:List D):List (At×D):=ks.map λd=>(kOf d,.bl true)
def dj_4{ks:List D}{d:D}(hk:∀k∈ks,isKey k)(hd:isKey d):Dz (z_6 ks) (kOf d)=true↔d∈ks:=by
 unfold Dz Dt z_6;rw [Option.isSome_map,List.find?_isSome];constructor
 ·rintro ⟨p,hp,e⟩
  obtain⟨x,hx,rfl⟩:=List.mem_map.mp hp;have:kOf x=kOf d:=by simpa using e
  rw [<-cs_8 (hk x hx) hd this];exact hx
 ·intro h;exact⟨(kOf d,.bl true),List.mem_map.mpr ⟨d,h,rfl⟩,by simp⟩
def dj_5{ks:List D}{d:D}(hk:∀k∈ks,isKey k)(hd:isKey d)(n:d∉ks):Ds (z_6 ks) (kOf d) (.bl true)=z_6 (ks ++ [d]):=by
 unfold Ds;have h:((z_6 ks).any λkv=>decide (kv.1=kOf d))=false:=by
  cases q:(z_6 ks).any λkv=>decide (kv.1=kOf d) with
  |false=>rfl
  |true=>
   exfalso;obtain⟨p,hp,e⟩:=List.any_eq_true.mp q;obtain⟨x,hx,rfl⟩:=List.mem_map.mp hp;have:kOf x=kOf d:=by simpa using e
   have:=cs_8 (hk x hx) hd this;subst this;exact n hx
 rw [h];unfold z_6;rw [List.map_append];rfl
def cg_2{ks:List D}{l:List D}{d:D}{k:Nat}(hl:∀x∈l,isKey x)(hd:isKey d)(n:d∉l)(hn:l.length < 16777216):
  o_2 [.sh (.lst ks),.ow (.dic (z_6 l)),.sh (.int (k:Int)),.sh d]=.nx [.sh (.lst ks),.ow (.dic (z_6 (l ++ [d]))),.sh (.int (k:Int)),.sh d]:=by
 have h:Dz (z_6 l) (kOf d)=false:=by
  cases q:Dz (z_6 l) (kOf d) with
  |false=>rfl
  |true=>exact absurd ((dj_4 hl hd).mp q) n
 have hs:(z_6 l).length < 16777216:=by unfold z_6;rw [List.length_map];exact hn
 simp_arith [o_2,Am,inK,dj_3 hd,h,ar_2,hs,dj_5 hl hd n]
def cy_5{ks:List D}(hk:∀k∈ks,isKey k)(nd:ks.Nodup)(hl:ks.length < 16777216):q_8 [.lst ks]=.ok (.sh .non):=by
 obtain⟨Δ',e,a2,a3,rfl⟩:=h_9 (Fj 2 3) o_2 (λk Δ=>∃a2 a3,Δ= [.sh (.lst ks),.ow (.dic (z_6 (ks.take k))),a2,a3]) (ds:=Fg 0 ks) (Δ:=[.sh (.lst ks),.ow (.dic []),.no,.no]) ⟨_,_,rfl⟩ (λk d Δ hd hI=>by
  obtain⟨a2,a3,rfl⟩:=hI;obtain⟨d',e1,rfl⟩:=p_9 hd;have hlt:k < ks.length:=(List.getElem?_eq_some_iff.mp e1).1;have nin:d'∉ks.take k:=λhm=>by
   obtain⟨j,hj,e⟩:=List.getElem_of_mem hm;rw [List.length_take] at hj;rw [List.getElem_take] at e;have:=List.pairwise_iff_getElem.mp nd j k (by omega) hlt (by omega);rw [e] at this;rw [List.getElem?_eq_getElem hlt] at e1;injection e1 with e1
   exact this e1.symm
  refine⟨_,rfl,_,.inl (cg_2 (k:=0 + k) (λx hx=>hk x (List.mem_of_mem_take hx)) (hk d' (List.mem_of_getElem? e1)) nin (by rw [List.length_take];omega)),.sh (.int ((0 + k:Nat):Int)),.sh d', ?_⟩;rw [List.take_add_one,e1];rfl)
 have e':Ey (Fj 2 3) o_2 (Fg 0 ks) [.sh (.lst ks),.ow (.dic []),.no,.no]=_:=e
 simp_arith [q_8,am_3,Am,ar_1,Cb,u_8,au_6,e']
def bw_2{ks:List D}(hk:∀k∈ks,isKey k)(nd:ks.Nodup)(h1:1<=ks.length)(h2:ks.length<=200):j_1 [.lst ks]=.ok (.sh (.int (ks.length:Int))):=by
 have c1:¬(ks.length:Int)=0:=by omega
 have c2:¬(200:Int) < (ks.length:Int):=by omega
 simp_arith [j_1,ax_6,Am,k_3,Ek,c1,cc_7,c2,cs_9 hk,cy_5 hk nd (by omega)]
def Be(n ia:Int):Int:=if ia < 3 then n + n / 8 + 1 else 41 * n / 100 + 2
def s_0(n ia:Int)(h0:0<=n)(h1:n<=1000)(hk:ia=2\/ia=3):i_4 [.int n,.int ia]=.ok (.sh (.int (Be n ia)))/\True/\0 < Be n ia/\Be n ia<=2000:=by
 have m41:Ei 41 n=true:=Gm (by decide) (by decide);rcases hk with rfl|rfl
 ·refine⟨?_,trivial, ?_, ?_⟩
  ·simp_arith [i_4,ai_5,Am,Et,show(2:Int) < 3 by decide,x_7 (show(0:Int) < 8 by decide) (by decide),Gw,Be]
  ·unfold Be;rw [if_pos (by decide)];omega
  ·unfold Be;rw [if_pos (by decide)];omega
 ·refine⟨?_,trivial, ?_, ?_⟩
  ·simp_arith [i_4,ai_5,Am,Et,show¬(3:Int) < 3 by decide,x_7 (show(0:Int) < 100 by decide) (by decide),Gw,Ep m41,Be]
  ·unfold Be;rw [if_neg (by decide)];omega
  ·unfold Be;rw [if_neg (by decide)];omega
def y_4(d:D)(salt ib:Int)(j:Int):Int:=j * ib + Ge (q_4 d) (4 * salt + j) ib
def ak_9(d:D)(salt ia ib:Int):List D:=(List.range ia.toNat).map λ(k:Nat)=>D.int (y_4 d salt ib (0 + (k:Int)))
def bo_8{d:D}(h:isKey d)(salt ia ib:Int)(s0:0<=salt)(s1:salt<=1000000000000)(hk:ia=2\/ia=3)(p0:0 < ib)(p1:ib<=2000):
  f_3 [d,.int salt,.int ia,.int ib]=.ok (.sh (.tup (ak_9 d salt ia ib)))/\True:=by
 have hr:=n_8 (j:=ia) (by omega) (by omega);have hl:(Ci 0 ia.toNat).length<=16777216:=by rw [k_8];omega
 have bw:∀k:Nat,k < ia.toNat->Ei (0 + (k:Int)) ib=true/\Ei 4 salt=true:=λk hk=>⟨Gm (by omega) (by omega),Gm (by decide) (by decide)⟩;refine⟨?_,trivial⟩
 ·have ec:=cx_9 (fg:=gC 5) (p:=λ_=> .ok true) (f:=v_3) (δ:=[some d,some (.int salt),some (.int ia),some (.int ib),some (.int (q_4 d)),none]) (F:=λi=> .int (y_4 d salt ib i)) ia.toNat 0 (λk hk'=>by
   obtain⟨m1,m2⟩:=bw k hk';refine⟨[some d,some (.int salt),some (.int ia),some (.int ib),some (.int (q_4 d)),some (.int (0 + (k:Int)))],.sh (.int (y_4 d salt ib (0 + (k:Int)))),rfl,rfl, ?_,rfl⟩
   simp_arith [v_3,Am,Ep m1,Ep m2,Gw,(cg_1 (q_4 d) (4 * salt + (0 + (k:Int))) ib (by omega) (by omega) p0).1,y_4])
  have ec':=Go (m:=1) (fi:=Av Ch (Aa (Ab 2) Ac)) (fg:=gC 5) (p:=λ_=> .ok true) (f:=v_3) (δ:=[some d,some (.int salt),some (.int ia),some (.int ib),some (.int (q_4 d))]) (by simp_arith [Am,hr]) hl ec
  simp_arith [f_3,ax_7,Am,cg_0 h,ec',de_1]
  rfl
def cn_1(ks:List D)(salt ia:Int):List D:=ks.map λd=> .tup (ak_9 d salt ia (Be (ks.length:Int) ia))
def cg_3{ks:List D}(hk:∀k∈ks,isKey k)(nd:ks.Nodup)(h1:1<=ks.length)(h2:ks.length<=200)(salt ia:Int)(s0:0<=salt)(s1:salt<=1000000000000)(hkd:ia=2\/ia=3):
  v_0 [.lst ks,.int salt,.int ia]=.ok (.ow (.lst (cn_1 ks salt ia))):=by
 obtain⟨p1,p2,p3,p4⟩:=s_0 (ks.length:Int) ia (by omega) (by omega) hkd
 ·have ec:=Go (m:=1) (fi:=Cr (Ab 0)) (fg:=gC 4) (p:=λ_=> .ok true) (f:=ae_1) (δ:=[some (.lst ks),some (.int salt),some (.int ia),some (.int (Be (ks.length:Int) ia))]) (ds:=ks) (by simp_arith [Am]) (by omega)
   (m_9 (λd=> .tup (ak_9 d salt ia (Be (ks.length:Int) ia))) ks λd hd=>⟨_,.sh (.tup (ak_9 d salt ia (Be (ks.length:Int) ia))),rfl,by
    simp_arith [ae_1,Am,(bo_8 (hk d hd) salt ia (Be (ks.length:Int) ia) s0 s1 hkd p3 p4).1],rfl⟩)
  simp_arith [v_0,bf_5,Am,bw_2 hk nd h1 h2,p1,ec]
  rfl
def kp(p:Nat):At:=.inl (p:Int)
def kp_inj{a b:Nat}:kp a=kp b↔a=b:=by
 unfold kp;constructor
 ·intro h;injection h with h;exact Int.ofNat.inj h
 ·intro h;rw [h]
def inner(ns:List Nat):List (At×D):=ns.map λn=>(kp n,.bl true)
abbrev Cu:=List (Nat×List Nat)
def inT(ns:List Nat):Tn:=Tn.of (.dic (inner ns))
def Ca(st:Cu):List (At×Tn):=st.map λx=>(kp x.1,inT x.2)
def Bx:Cu->Nat->Option (List Nat)
 | [],_=>none
 |(q,ns)::r,p=>if q=p then some ns else Bx r p
def rpS:Cu->Nat->List Nat->Cu
 | [],_,_=> []
 |(q,ns)::r,p,ms=>if q=p then(q,ms)::r else(q,ns)::rpS r p ms
theorem aj_5:∀(st:Cu) (p:Nat),Dt (Ca st) (kp p)=(Bx st p).map inT
 | [],_=>rfl
 |(q,ns)::r,p=>by
  have ih:=aj_5 r p;unfold Dt at ih⊢;show(((kp q,inT ns)::Ca r).find? λkv=>decide (kv.1=kp p)).map (·.2)=_;unfold Bx
  by_cases h:q=p
  ·rw [if_pos h,List.find?_cons_of_pos (by simpa [kp_inj] using h)];rfl
  ·rw [if_neg h,List.find?_cons_of_neg (by simpa [kp_inj] using h)];exact ih
theorem as_2(ms:List Nat):∀(st:Cu) (p:Nat),Em (Ca st) (kp p) (inT ms)=Ca (rpS st p ms)
 | [],_=>rfl
 |(q,ns)::r,p=>by
  show Em ((kp q,inT ns)::Ca r) (kp p) (inT ms)=_;unfold Em rpS
  by_cases h:q=p
  ·rw [if_pos h,if_pos (kp_inj.mpr h)];rfl
  ·rw [if_neg h,if_neg (λz=>h (kp_inj.mp z)),as_2 ms r p];rfl
def du_0(a b:Cu):Ca (a ++ b)=Ca a ++ Ca b:=by unfold Ca;rw [List.map_append]
def du_1(a:Cu):(Ca a).length=a.length:=by unfold Ca;rw [List.length_map]
def ej_3(ns:List Nat):(inT ns).d=.dic (inner ns):=Tn.of_d _
theorem cn_2:∀st:Cu,Tn.ks (Ca st)=st.map λx=>(kp x.1,.dic (inner x.2))
 | []=>rfl
 |(q,ns)::r=>by
  show(kp q,(inT ns).d)::Tn.ks (Ca r)=_;rw [cn_2 r,ej_3];rfl
theorem bw_3:∀(st:Cu) (p:Nat),Dt (Tn.ks (Ca st)) (kp p)=(Bx st p).map λns=> .dic (inner ns)
 | [],_=>rfl
 |(q,ns)::r,p=>by
  have ih:=bw_3 r p;rw [cn_2] at ih⊢;unfold Dt at ih⊢;rw [List.map_cons];unfold Bx
  by_cases h:q=p
  ·rw [if_pos h,List.find?_cons_of_pos (by simpa [kp_inj] using h)];rfl
  ·rw [if_neg h,List.find?_cons_of_neg (by simpa [kp_inj] using h)];exact ih
def ct_0(st:Cu)(p:Nat):Dz (Tn.ks (Ca st)) (kp p)=(Bx st p).isSome:=by
 unfold Dz;rw [bw_3,Option.isSome_map]
def av_8(ns:List Nat):(inner ns).length=ns.length:=by unfold inner;rw [List.length_map]
theorem bg_2:∀(ns:List Nat) (n:Nat),Dz (inner ns) (kp n)=decide (n∈ns)
 | [],_=>by simp [inner,Dz,Dt]
 |m::ns,n=>by
  have ih:=bg_2 ns n;unfold Dz Dt at ih⊢;show((((kp m,D.bl true)::inner ns).find? λkv=>decide (kv.1=kp n)).map (·.2)).isSome=_
  by_cases h:m=n
  ·rw [List.find?_cons_of_pos (by simpa [kp_inj] using h)];simp [h]
  ·rw [List.find?_cons_of_neg (by simpa [kp_inj] using h),ih];simp [Ne.symm h]
def cy_6(ns:List Nat)(n:Nat):((inner ns).any λkv=>decide (kv.1=kp n))=decide (n∈ns):=by
 induction ns with
 |nil=>rfl
 |cons m ns ih=>
  show(decide (kp m=kp n) || (inner ns).any λkv=>decide (kv.1=kp n))=_;rw [ih]
  by_cases h:m=n
  ·simp [h]
  ·simp [h,kp_inj,Ne.symm h]
def bo_9(ns:List Nat)(n:Nat):Ds (inner ns) (kp n) (.bl true)=inner (if n∈ns then ns else ns ++ [n]):=by
 unfold Ds;rw [cy_6]
 by_cases h:n∈ns
 ·rw [if_pos (decide_eq_true h),if_pos h];unfold inner;rw [List.map_map];apply List.map_congr_left;intro m _;show(if kp m=kp n then(kp m,D.bl true) else(kp m,D.bl true))=_
  split <;> rfl
 ·rw [if_neg (by simpa using h),if_neg h];unfold inner;rw [List.map_append];rfl
def cn_3(ns:List Nat)(n:Nat):Fs (inner ns) (kp n)=inner (ns.filter λm=>decide (m≠n)):=by
 unfold Fs inner;rw [List.filter_map]
 congr 1
 apply List.filter_congr;intro m _;show decide (kp m≠kp n)=_
 by_cases h:m=n
 ·simp [h]
 ·simp [h,kp_inj]
theorem ct_1:∀(st:Cu) (p q:Nat) (ms:List Nat),Bx (rpS st p ms) q=if q=p then(Bx st p).map (λ_=>ms) else Bx st q
 | [],p,q,ms=>by simp [rpS,Bx]
 |(r,ns)::st,p,q,ms=>by
  unfold rpS
  by_cases h:r=p
  ·rw [if_pos h];unfold Bx
   by_cases h2:q=p
   ·rw [if_pos (by omega),if_pos h2,if_pos h];rfl
   ·rw [if_neg (by omega),if_neg h2,if_neg (by omega)]
  ·rw [if_neg h];unfold Bx
   by_cases h2:r=q
   ·rw [if_pos h2,if_neg (by omega),if_pos h2]
   ·rw [if_neg h2,ct_1 st p q ms,if_neg h,if_neg h2]
theorem bw_4:∀(st:Cu) (p:Nat) (ms:List Nat),(rpS st p ms).map (·.1)=st.map (·.1)
 | [],_,_=>rfl
 |(r,ns)::st,p,ms=>by
  unfold rpS
  split
  ·rfl
  ·rw [List.map_cons,List.map_cons,bw_4 st p ms]
theorem bw_5:∀(a:Cu) (p q:Nat) (ms:List Nat),Bx (a ++ [(p,ms)]) q=match Bx a q with|some ns=>some ns|none=>if p=q then some ms else none
 | [],p,q,ms=>rfl
 |(r,ns)::a,p,q,ms=>by
  show Bx ((r,ns)::(a ++ [(p,ms)])) q=_;unfold Bx
  by_cases h:r=q
  ·rw [if_pos h,if_pos h]
  ·rw [if_neg h,if_neg h,bw_5 a p q ms]
theorem dj_6:∀(a:Cu) (p:Nat) (ms ls:List Nat),Bx a p=none->rpS (a ++ [(p,ms)]) p ls=a ++ [(p,ls)]
 | [],p,ms,ls,_=>by show rpS [(p,ms)] p ls=_;unfold rpS;rw [if_pos rfl];rfl
 |(r,ns)::a,p,ms,ls,h=>by
  unfold Bx at h
  split at h
  ·cases h
  ·rename_i hn;show rpS ((r,ns)::(a ++ [(p,ms)])) p ls=_;unfold rpS;rw [if_neg hn,dj_6 a p ms ls h];rfl
theorem lk_mem:∀{st:Cu} {p:Nat},p∈st.map (·.1)↔(Bx st p).isSome=true
 | [],p=>by simp [Bx]
 |(r,ns)::st,p=>by
  unfold Bx
  by_cases h:r=p
  ·simp [h]
  ·rw [if_neg h,List.map_cons,List.mem_cons,lk_mem (st:=st)];constructor
   ·rintro (z|z)
    ·exact absurd z.symm h
    ·exact z
   ·exact λz=> .inr z
structure Rep(st:Cu)(R:Nat->Nat->Prop):Prop where
 at_:∀p ns,Bx st p=some ns->ns.Nodup/\∀n,n∈ns↔R n p
 all:∀n p,R n p->(Bx st p).isSome=true
def addS(st:Cu)(p n:Nat):Cu:=match Bx st p with
 |some ns=>rpS st p (if n∈ns then ns else ns ++ [n])
 |none=>st ++ [(p,[n])]
def Rep.add{st:Cu}{R:Nat->Nat->Prop}(h:Rep st R)(p n:Nat):Rep (addS st p n) (λn' p'=>R n' p'\/(n'=n/\p'=p)):=by
 unfold addS;cases e:Bx st p with
 |some ns=>
  obtain⟨h1,h2⟩:=h.at_ p ns e;refine⟨λq ms eq=> ?_,λn' p' z=> ?_⟩
  ·simp only [ct_1,e,Option.map_some] at eq
   by_cases hq:q=p
   ·rw [if_pos hq] at eq;cases eq;subst hq
    by_cases hn:n∈ns
    ·rw [if_pos hn];refine⟨h1,λm=>⟨λz=> .inl ((h2 m).mp z),λz=> ?_⟩⟩;rcases z with z|⟨rfl,_⟩
     ·exact(h2 m).mpr z
     ·exact hn
    ·rw [if_neg hn];refine⟨List.nodup_append.mpr ⟨h1,by simp,λa ha b hb=> ?_⟩,λm=> ?_⟩
     ·have:b=n:=by simpa using hb
      rintro rfl
      exact hn (this▸ha)
     ·rw [List.mem_append,h2 m,List.mem_singleton];constructor
      ·rintro (z|z)
       ·exact .inl z
       ·exact .inr ⟨z,rfl⟩
      ·rintro (z|⟨z,_⟩)
       ·exact .inl z
       ·exact .inr z
   ·rw [if_neg hq] at eq;obtain⟨k1,k2⟩:=h.at_ q ms eq;refine⟨k1,λm=>⟨λz=> .inl ((k2 m).mp z),λz=> ?_⟩⟩;rcases z with z|⟨_,z⟩
    ·exact(k2 m).mpr z
    ·exact absurd z hq
  ·simp only [ct_1,e,Option.map_some]
   by_cases hq:p'=p
   ·rw [if_pos hq];rfl
   ·rw [if_neg hq];rcases z with z|⟨_,z⟩
    ·exact h.all n' p' z
    ·exact absurd z hq
 |none=>
  refine⟨λq ms eq=> ?_,λn' p' z=> ?_⟩
  ·simp only [bw_5] at eq;cases e2:Bx st q with
   |some ns=>
    rw [e2] at eq;cases eq;obtain⟨k1,k2⟩:=h.at_ q _ e2;refine⟨k1,λm=>⟨λz=> .inl ((k2 m).mp z),λz=> ?_⟩⟩;rcases z with z|⟨_,z⟩
    ·exact(k2 m).mpr z
    ·subst z;rw [e] at e2;cases e2
   |none=>
    rw [e2] at eq
    by_cases hq:p=q
    ·simp only [hq,if_true] at eq;cases eq;subst hq;refine⟨by simp,λm=> ?_⟩;rw [List.mem_singleton];constructor
     ·exact λz=> .inr ⟨z,rfl⟩
     ·rintro (z|⟨z,_⟩)
      ·have:=h.all m p z;rw [e] at this;cases this
      ·exact z
    ·simp only [hq,if_false] at eq;cases eq
  ·simp only [bw_5];rcases z with z|⟨_,z⟩
   ·have:=h.all n' p' z;cases e2:Bx st p' with
    |some ns=>rfl
    |none=>rw [e2] at this;cases this
   ·subst z;rw [e];simp
def du_2(st:Cu)(p n:Nat):(addS st p n).length<=st.length + 1:=by
 unfold addS
 split
 ·have:=congrArg List.length (bw_4 st p (if n∈(by assumption:List Nat) then(by assumption:List Nat) else(by assumption:List Nat) ++ [n]));rw [List.length_map,List.length_map] at this;omega
 ·simp
def Fu(st:Cu)(n:Nat)(ps:List Nat):Cu:=ps.foldl (λst p=>rpS st p (((Bx st p).getD []).filter λm=>decide (m≠n))) st
theorem al_0(n:Nat):∀(ps:List Nat) (st:Cu),(Fu st n ps).map (·.1)=st.map (·.1)
 | [],_=>rfl
 |p::ps,st=>by
  show(Fu (rpS st p _) n ps).map (·.1)=_;rw [al_0 n ps,bw_4]
theorem bc_0(n:Nat):∀(ps:List Nat) (st:Cu) (q:Nat),Bx (Fu st n ps) q=if q∈ps then(Bx st q).map (λns=>ns.filter λm=>decide (m≠n)) else Bx st q
 | [],st,q=>by simp [Fu]
 |p::ps,st,q=>by
  show Bx (Fu (rpS st p _) n ps) q=_;rw [bc_0 n ps,ct_1]
  by_cases h:q=p
  ·subst h;rw [if_pos rfl,if_pos (List.mem_cons_self ..)];cases e:Bx st q with
   |none=>simp
   |some ns=>
    simp only [Option.map_some,Option.getD_some]
    split
    ·rw [List.filter_filter];simp
    ·rfl
  ·rw [if_neg h]
   by_cases h2:q∈ps
   ·rw [if_pos h2,if_pos (List.mem_cons_of_mem _ h2)]
   ·rw [if_neg h2,if_neg (by simp [h,h2])]
def Rep.away{st:Cu}{R:Nat->Nat->Prop}(h:Rep st R)(n:Nat)(ps:List Nat)(hp:∀p,R n p->p∈ps):Rep (Fu st n ps) (λn' p'=>R n' p'/\n'≠n):=by
 refine⟨λq ms e=> ?_,λn' p' ⟨z,_⟩=> ?_⟩
 ·rw [bc_0] at e
  by_cases hq:q∈ps
  ·rw [if_pos hq] at e;obtain⟨ns,e1,rfl⟩:=Option.map_eq_some_iff.mp e;obtain⟨k1,k2⟩:=h.at_ q ns e1;refine⟨k1.filter _,λm=> ?_⟩;rw [List.mem_filter,k2 m];simp
  ·rw [if_neg hq] at e;obtain⟨k1,k2⟩:=h.at_ q ms e;refine⟨k1,λm=>⟨λz=>⟨(k2 m).mp z, ?_⟩,λz=>(k2 m).mpr z.1⟩⟩
   rintro rfl
   exact hq (hp q ((k2 m).mp z))
 ·rw [bc_0];have:=h.all n' p' z
  split
  ·rw [Option.isSome_map];exact this
  ·exact this
def zi(ps:List Nat):List D:=ps.map λp=>D.int ((p:Nat):Int)
def eT(ps:List Nat):D:=.tup (zi ps)
def eL(E:List (List Nat)):List D:=E.map eT
def y_5(l:List Nat):(zi l).length=l.length:=by unfold zi;rw [List.length_map]
def dj_7{l:List Nat}{i:Nat}{d:D}(h:(zi l)[i]? =some d):∃p,l[i]? =some p/\d=.int (p:Int):=by
 unfold zi at h;rw [List.getElem?_map] at h;obtain⟨p,e1,e2⟩:=Option.map_eq_some_iff.mp h;exact⟨p,e1,e2.symm⟩
def ed_5{E:List (List Nat)}{i:Nat}{d:D}(h:(eL E)[i]? =some d):∃ps,E[i]? =some ps/\d=eT ps:=by
 unfold eL at h;rw [List.getElem?_map] at h;obtain⟨p,e1,e2⟩:=Option.map_eq_some_iff.mp h;exact⟨p,e1,e2.symm⟩
def dw_8{E:List (List Nat)}{i:Nat}{ps:List Nat}(h:E[i]? =some ps):(eL E)[i]? =some (eT ps):=by
 unfold eL;rw [List.getElem?_map,h];rfl
def stSl(st:Cu)(a:Sl):Prop:=a=.tr (.dic (Ca st))\/(st= []/\a=.ow (.dic []))
theorem stSl.any{st:Cu}{a:Sl}(h:stSl st a):Sl.any a=some (.dic (Tn.ks (Ca st))):=by
 rcases h with rfl|⟨rfl,rfl⟩ <;> rfl
theorem stSl.tree{st:Cu}{a:Sl}(h:stSl st a):Sl.tree a=some (.dic (Ca st),false):=by
 rcases h with rfl|⟨rfl,rfl⟩ <;> rfl
def cy_7{st:Cu}{a1:Sl}(h:stSl st a1)(a0:Sl)(n p:Nat)(a3:Sl)(hl:st.length < 1000)(hi:∀q ns,Bx st q=some ns->ns.length < 1000):
  o_3 [a0,a1,.sh (.int (n:Int)),a3,.sh (.int (p:Int))]=.nx [a0,.tr (.dic (Ca (addS st p n))),.sh (.int (n:Int)),a3,.sh (.int (p:Int))]:=by
 have hk:∀k:Nat,Di (.int (k:Int))=some (kp k):=λ_=>rfl;unfold addS;cases e:Bx st p with
 |some ns=>
  have e1:inK true (.int (p:Int)) (.dic (Tn.ks (Ca st)))=.ok (.sh (.bl false)):=by
   simp only [inK,hk,ct_0,e];rfl
  have e2:Dt (Ca st) (kp p)=some (.dic ((inner ns).map λp=>(p.1,Tn.sh p.2))):=by rw [aj_5,e];rfl
  have e3:=cl_6 (inner ns);have e4:(inner ns).length < 16777216:=by rw [av_8];have:=hi p ns e;omega
  have e5:Em (Ca st) (kp p) (Tn.of (.dic (inner (if n∈ns then ns else ns ++ [n]))))=Ca (rpS st p (if n∈ns then ns else ns ++ [n])):=as_2 _ st p
  simp_arith [o_3,Am,h.any,e1,bn_6,Option.bind_some,h.tree,hk,e2,e3,e4,bo_9,e5,Sl.mk]
 |none=>
  have e1:inK true (.int (p:Int)) (.dic (Tn.ks (Ca st)))=.ok (.sh (.bl true)):=by
   simp only [inK,hk,ct_0,e];rfl
  have e0:(Dt (Ca st) (kp p)).isSome=false:=by rw [aj_5,e];rfl
  have el:(Ca st).length < 16777216:=by rw [du_1];omega
  have ea:Ca st ++ [(kp p,Tn.dic [])]=Ca (st ++ [(p,[])]):=by rw [du_0];rfl
  have e2:Dt (Ca (st ++ [(p,[])])) (kp p)=some (.dic []):=by
   rw [aj_5,bw_5,e];simp only [if_true];rfl
  have e5:Em (Ca (st ++ [(p,[])])) (kp p) (Tn.of (.dic (inner [n])))=Ca (st ++ [(p,[n])]):=by
   have:=as_2 [n] (st ++ [(p,[])]) p;rw [dj_6 st p [] [n] e] at this;exact this
  have e6:unS []=some []:=rfl;have e7:Ds ([]:List (At×D)) (kp n) (.bl true)=inner [n]:=rfl;have e8:(0:Nat) < 16777216:=by decide
  have t1:bn_7 1 (Ab 4) [a0,a1,.sh (.int (n:Int)),a3,.sh (.int (p:Int))]=.nx [a0,.tr (.dic (Ca (st ++ [(p,[])]))),.sh (.int (n:Int)),a3,.sh (.int (p:Int))]:=by
   simp_arith [bn_7,Am,Option.bind_some,h.tree,hk,e0,el,ea,Sl.mk]
  have t2:bn_6 1 (Ab 4) (Ab 2) (eC (.bl true)) [a0,.tr (.dic (Ca (st ++ [(p,[])]))),.sh (.int (n:Int)),a3,.sh (.int (p:Int))]=.nx [a0,.tr (.dic (Ca (st ++ [(p,[n])]))),.sh (.int (n:Int)),a3,.sh (.int (p:Int))]:=by
   simp_arith [bn_6,Am,Option.bind_some,Sl.tree,hk,e2,e6,e7,e8,e5,Sl.mk]
  have t0:Bw [1,4] (Ao (Ak (inK true) (Ab 4) (Ab 1))) (bn_7 1 (Ab 4)) Bg [a0,a1,.sh (.int (n:Int)),a3,.sh (.int (p:Int))]=.nx [a0,.tr (.dic (Ca (st ++ [(p,[])]))),.sh (.int (n:Int)),a3,.sh (.int (p:Int))]:=by
   rw [<-t1];simp only [Bw,As,List.map_cons,List.map_nil,cm_2,h.any,Ao,Ak,Ab,List.getElem?_cons_succ,List.getElem?_cons_zero,R.bind_ok,W.d_sh,e1,Dn,if_true]
  unfold o_3;rw [Bq t0,t2]
def few{l:List Nat}{n:Nat}(h:l.Nodup)(hb:∀x∈l,x < n):l.length<=n:=by
 have:=List.Nodup.length_le_of_subset (l₂:=List.range n) h λx hx=>List.mem_range.mpr (hb x hx)
 rwa [List.length_range] at this
def tot(E:List (List Nat)):Nat:=(E.map List.length).sum
def dj_8{E:List (List Nat)}{k:Nat}{ps:List Nat}(h:E[k]? =some ps):tot (E.take (k + 1))=tot (E.take k) + ps.length:=by
 unfold tot;rw [List.take_add_one,h,List.map_append,List.sum_append];simp
theorem ay_4:∀(l:List Nat) (k:Nat),(l.take k).sum<=l.sum
 | [],k=>by simp
 |a::l,0=>by simp
 |a::l,k + 1=>by
  have:=ay_4 l k;simp only [List.take_succ_cons,List.sum_cons];omega
def ed_6(E:List (List Nat))(k:Nat):tot (E.take k)<=tot E:=by
 unfold tot;rw [List.map_take];exact ay_4 _ k
def RE(E:List (List Nat))(n p:Nat):Prop:=∃e,E[n]? =some e/\p∈e
def Rep.imp{st:Cu}{R R':Nat->Nat->Prop}(h:Rep st R)(i:∀n p,R n p↔R' n p):Rep st R':=
 ⟨λp ns e=>⟨(h.at_ p ns e).1,λn=>((h.at_ p ns e).2 n).trans (i n p)⟩,λn p z=>h.all n p ((i n p).mpr z)⟩
def Rep.small{st:Cu}{R:Nat->Nat->Prop}(h:Rep st R){N:Nat}(hb:∀n p,R n p->n < N){q:Nat}{ns:List Nat}(e:Bx st q=some ns):ns.length<=N:=by
 obtain⟨h1,h2⟩:=h.at_ q ns e;exact few h1 λx hx=>hb x q ((h2 x).mp hx)
def cn_5{st:Cu}{a1:Sl}(h:stSl st a1)(a0:Sl)(n:Nat)(ps:List Nat)(a4:Sl){R:Nat->Nat->Prop}(hR:Rep st R){N:Nat}(hb:∀m p,R m p->m < N)(hn:n < N)(hN:N<=900)(hl:st.length + ps.length<=900):
  ∃st' a1' a4',Rep st' (λm p=>R m p\/(m=n/\p∈ps))/\stSl st' a1'/\st'.length<=st.length + ps.length/\o_4 [a0,a1,.sh (.int (n:Int)),.sh (eT ps),a4]=.nx [a0,a1',.sh (.int (n:Int)),.sh (eT ps),a4']:=by
 obtain⟨Δ',e,st',a1',a4',r',s',l',rfl⟩:=h_9 (gV 4) o_3 (λk Δ=>∃st' a1' a4',Rep st' (λm p=>R m p\/(m=n/\p∈ps.take k))/\stSl st' a1'/\st'.length<=st.length + k/\Δ= [a0,a1',.sh (.int (n:Int)),.sh (eT ps),a4']) (ds:=zi ps) (Δ:=[a0,a1,.sh (.int (n:Int)),.sh (eT ps),a4])
  ⟨st,a1,a4,hR.imp λm p=>by simp,h,by omega,rfl⟩ (λk d Δ hd hI=>by
   obtain⟨st',a1',a4',r',s',l',rfl⟩:=hI;obtain⟨p,hp,rfl⟩:=dj_7 hd;have hk:k < ps.length:=(List.getElem?_eq_some_iff.mp hp).1;have bd:∀m q,(R m q\/(m=n/\q∈ps.take k))->m < N:=λm q z=>by
    rcases z with z|⟨z,_⟩
    ·exact hb m q z
    ·omega
   refine⟨_,rfl,_,.inl (cy_7 s' a0 n p (.sh (eT ps)) (by omega) λq ns e=> ?_),addS st' p n,_,_,(r'.add p n).imp λm q=> ?_,.inl rfl, ?_,rfl⟩
   ·have:=r'.small bd e;omega
   ·rw [List.take_add_one,hp];simp only [Option.toList_some,List.mem_append,List.mem_singleton];constructor
    ·rintro ((z|⟨z1,z2⟩)|⟨z1,z2⟩)
     ·exact .inl z
     ·exact .inr ⟨z1,.inl z2⟩
     ·exact .inr ⟨z1,.inr z2⟩
    ·rintro (z|⟨z1,z2|z2⟩)
     ·exact .inl (.inl z)
     ·exact .inl (.inr ⟨z1,z2⟩)
     ·exact .inr ⟨z1,z2⟩
   ·have:=du_2 st' p n;omega)
 rw [y_5,List.take_length] at r';rw [y_5] at l';refine⟨st',a1',a4',r',s',l', ?_⟩;have hi:∀δ:List (Option D),Cr (Ab 3) (some (D.non)::none::none::some (eT ps)::δ)=.ok (zi ps):=λ_=>rfl;simp only [o_4,Cb];have e1:Cr (Ab 3) (Bb [a0,a1,.sh (.int (n:Int)),.sh (eT ps),a4])=.ok (zi ps):=rfl;rw [e1];exact e
def cy_8(E:List (List Nat))(hE:E.length<=900)(hT:tot E<=900):∃st a1,Rep st (RE E)/\stSl st a1/\st.length<=tot E/\∃w,q_9 [.lst (eL E)]=.ok w/\((a1=.tr (.dic (Ca st))/\w=.tr (.dic (Ca st)))\/(st= []/\a1=.ow (.dic [])/\w=.ow (.dic []))):=by
 obtain⟨Δ',e,st,a1,a2,a3,a4,r,s,l,rfl⟩:=h_9 (Fj 2 3) o_4 (λk Δ=>∃st a1 a2 a3 a4,Rep st (λn p=>RE E n p/\n < k)/\stSl st a1/\st.length<=tot (E.take k)/\Δ= [.sh (.lst (eL E)),a1,a2,a3,a4]) (ds:=Fg 0 (eL E)) (Δ:=[.sh (.lst (eL E)),.ow (.dic []),.no,.no,.no])
  ⟨[],_,_,_,_,⟨λp ns e=>(by cases e),λn p z=>(by omega)⟩,.inr ⟨rfl,rfl⟩,Nat.zero_le _,rfl⟩ (λk d Δ hd hI=>by
   obtain⟨st,a1,a2,a3,a4,r,s,l,rfl⟩:=hI;obtain⟨d',e1,rfl⟩:=p_9 hd;obtain⟨ps,e2,rfl⟩:=ed_5 e1;have hk:k < E.length:=(List.getElem?_eq_some_iff.mp e2).1;have t1:=dj_8 e2;have t2:=ed_6 E (k + 1);rw [Nat.zero_add];obtain⟨st',a1',a4',r',s',l',e3⟩:=cn_5 s (.sh (.lst (eL E))) k ps a4 r (N:=E.length) (λm p z=>by omega) hk hE (by omega);refine⟨_,rfl,_,.inl e3,st',a1',_,_,a4',r'.imp λm p=> ?_,s',by omega,rfl⟩;constructor
   ·rintro (⟨z1,z2⟩|⟨rfl,z⟩)
    ·exact⟨z1,by omega⟩
    ·exact⟨⟨ps,e2,z⟩,by omega⟩
   ·rintro ⟨⟨e,z1,z2⟩,z3⟩
    by_cases h:m=k
    ·subst h;rw [e2] at z1;cases z1;exact .inr ⟨rfl,z2⟩
    ·exact .inl ⟨⟨e,z1,z2⟩,by omega⟩)
 have hle:(Fg 0 (eL E)).length=E.length:=by
  have:∀(l:List D) (k:Nat),(Fg k l).length=l.length:=λl=>by
   induction l with
   |nil=>intro k;rfl
   |cons d l ih=>intro k;show(Fg (k + 1) l).length + 1=l.length + 1;rw [ih]
  rw [this];unfold eL;rw [List.length_map]
 rw [hle] at r l;rw [List.take_length] at l;refine⟨st,a1,r.imp λn p=>⟨λz=>z.1,λz=>⟨z, ?_⟩⟩,s,l, ?_⟩
 ·obtain⟨e,z1,_⟩:=z;exact(List.getElem?_eq_some_iff.mp z1).1
 ·have e1:u_8 (Ab 0) (Bb [.sh (.lst (eL E)),.ow (.dic []),.no,.no,.no])=.ok (Fg 0 (eL E)):=rfl;have t1:Cb [0] (u_8 (Ab 0)) (Fj 2 3) o_4 [.sh (.lst (eL E)),.ow (.dic []),.no,.no,.no]=.nx [.sh (.lst (eL E)),a1,a2,a3,a4]:=by
   simp only [Cb];rw [e1];exact e
  have t0:Ah 1 [] ar_1 (Az 5 [.lst (eL E)])=.nx [.sh (.lst (eL E)),.ow (.dic []),.no,.no,.no]:=rfl;rcases s with rfl|⟨rfl,rfl⟩
  ·refine⟨_,x_2 ?_,.inl ⟨rfl,rfl⟩⟩;unfold aa_5;rw [Bq t0,Bq t1];rfl
  ·refine⟨_,x_2 ?_,.inr ⟨rfl,rfl,rfl⟩⟩;unfold aa_5;rw [Bq t0,Bq t1];rfl
def cy_9(st:Cu)(n:Nat){ps:List Nat}{k p:Nat}(h:ps[k]? =some p):Fu st n (ps.take (k + 1))=rpS (Fu st n (ps.take k)) p (((Bx (Fu st n (ps.take k)) p).getD []).filter λm=>decide (m≠n)):=by
 unfold Fu;rw [List.take_add_one,h,List.foldl_append];rfl
def du_3(st:Cu)(n:Nat)(ps:List Nat)(hp:∀p∈ps,(Bx st p).isSome=true):p_5 [.int (n:Int),eT ps] (.dic (Ca st))=some (.dic (Ca (Fu st n ps))):=by
 obtain⟨Δ',e,a3,rfl⟩:=h_9 (gV 3) aa_6 (λk Δ=>∃a3,Δ= [.sh (.int (n:Int)),.sh (eT ps),.lt (.dic (Ca (Fu st n (ps.take k)))),a3]) (ds:=zi ps) (Δ:=[.sh (.int (n:Int)),.sh (eT ps),.lt (.dic (Ca st)),.no])
  ⟨_,rfl⟩ (λk d Δ hd hI=>by
   obtain⟨a3,rfl⟩:=hI;obtain⟨p,hk,rfl⟩:=dj_7 hd;have hs:(Bx (Fu st n (ps.take k)) p).isSome=true:=by
    rw [<-lk_mem,al_0,lk_mem];exact hp p (List.mem_of_getElem? hk)
   cases e1:Bx (Fu st n (ps.take k)) p with
   |none=>rw [e1] at hs;cases hs
   |some ns=>
    have kk:∀k:Nat,Di (.int (k:Int))=some (kp k):=λ_=>rfl;have e2:Dt (Ca (Fu st n (ps.take k))) (kp p)=some (.dic ((inner ns).map λp=>(p.1,Tn.sh p.2))):=by rw [aj_5,e1];rfl
    have e3:=cl_6 (inner ns);have e5:=as_2 (ns.filter λm=>decide (m≠n)) (Fu st n (ps.take k)) p;unfold inT at e5;refine⟨_,rfl,[.sh (.int (n:Int)),.sh (eT ps),.lt (.dic (Ca (Fu st n (ps.take (k + 1))))),.sh (.int (p:Int))],.inl ?_,_,rfl⟩;rw [cy_9 st n hk,e1,Option.getD_some]
    simp_arith [aa_6,cr_6,Am,Option.bind_some,Sl.tree,ec_1,kk,e2,e3,cn_3,e5,Sl.mk])
 rw [y_5,List.take_length] at e;unfold p_5 cc_3;have e1:ax_8 (bt_2 4 [.int (n:Int),eT ps] (.dic (Ca st)))=.nx [.sh (.int (n:Int)),.sh (eT ps),.lt (.dic (Ca (Fu st n ps))),a3]:=e;rw [e1];rfl
def Cg(ord:List (Nat×Nat)):List D:=ord.map λx=> .tup [.int (x.1:Int),.int (x.2:Int)]
abbrev Qd(E:List (List Nat))(a1 s2:Sl)(w:List Nat)(ord:List (Nat×Nat))(a6:Sl)(p:Nat)(x0:Sl):SE:=[.sh (.lst (eL E)),a1,s2,.ow (.lst (zi w)),.ow (.lst (Cg ord)),.ow (.dic (inner (ord.map (·.1)))),a6,.sh (.int (p:Int)),x0]
def En(E:List (List Nat))(T:List Nat):Nat:=(((List.range E.length).filter λn=>decide (n∉T)).map λn=>(E.getD n []).length).sum
structure Peel(E:List (List Nat))(st:Cu)(ord:List (Nat×Nat)):Prop where
 rep:Rep st (λn p=>RE E n p/\n∉ord.map (·.1))
 nd:(ord.map (·.1)).Nodup
 ok:∀x∈ord,RE E x.1 x.2
 alone:∀x∈ord,∀m,m∉ord.map (·.1)->¬RE E m x.2
 pw:ord.Pairwise λx y=>¬RE E y.1 x.2
 keys:∀n p,RE E n p->(Bx st p).isSome=true
def RE.lt{E:List (List Nat)}{n p:Nat}(h:RE E n p):n < E.length:=by
 obtain⟨e,h1,_⟩:=h;exact(List.getElem?_eq_some_iff.mp h1).1
def Peel.next{E:List (List Nat)}{st:Cu}{ord:List (Nat×Nat)}(h:Peel E st ord){p n:Nat}{ps:List Nat}(hl:Bx st p=some [n])(he:E[n]? =some ps):Peel E (Fu st n ps) (ord ++ [(n,p)])/\n∉ord.map (·.1):=by
 obtain⟨_,h2⟩:=h.rep.at_ p [n] hl;have hn:=(h2 n).mp (by simp);have only:∀m,RE E m p->m∉ord.map (·.1)->m=n:=λm z1 z2=>by
  have:=(h2 m).mpr ⟨z1,z2⟩;simpa using this
 refine⟨⟨?_, ?_, ?_, ?_, ?_, ?_⟩,hn.2⟩
 ·refine(h.rep.away n ps λq z=> ?_).imp λm q=> ?_
  ·obtain⟨⟨e,z1,z2⟩,_⟩:=z;rw [he] at z1;cases z1;exact z2
  ·simp only [List.map_append,List.map_cons,List.map_nil,List.mem_append,List.mem_singleton];constructor
   ·rintro ⟨⟨z1,z2⟩,z3⟩
    exact⟨z1,λz=>z.elim z2 z3⟩
   ·rintro ⟨z1,z2⟩
    exact⟨⟨z1,λz=>z2 (.inl z)⟩,λz=>z2 (.inr z)⟩
 ·rw [List.map_append];refine List.nodup_append.mpr ⟨h.nd,by simp,λa ha b hb=> ?_⟩;have:b=n:=by simpa using hb
  rintro rfl
  exact hn.2 (this▸ha)
 ·intro x hx;rcases List.mem_append.mp hx with hx|hx
  ·exact h.ok x hx
  ·have:x=(n,p):=by simpa using hx
   rw [this];exact hn.1
 ·intro x hx m hm;have hm':m∉ord.map (·.1):=λz=>hm (by rw [List.map_append];exact List.mem_append_left _ z);rcases List.mem_append.mp hx with hx|hx
  ·exact h.alone x hx m hm'
  ·have:x=(n,p):=by simpa using hx
   subst this;intro z;have:=only m z hm';exact hm (by rw [this];simp)
 ·refine List.pairwise_append.mpr ⟨h.pw,by simp,λx hx y hy=> ?_⟩;have:y=(n,p):=by simpa using hy
  subst this;exact h.alone x hx n hn.2
 ·intro m q z;rw [<-lk_mem,al_0,lk_mem];exact h.keys m q z
theorem ag_2{f:Nat->Nat}{n:Nat}:∀{l:List Nat} {P Q:Nat->Bool},l.Nodup->n∈l->P n=true->Q n=false->(∀m,m≠n->Q m=P m)->((l.filter P).map f).sum=((l.filter Q).map f).sum + f n
 | [],_,_,_,h,_,_,_=>by cases h
 |a::l,P,Q,nd,h,h1,h2,h3=>by
  rw [List.nodup_cons] at nd
  by_cases ha:a=n
  ·subst ha;have:l.filter P=l.filter Q:=List.filter_congr λm hm=>(h3 m λz=>nd.1 (z▸hm)).symm;rw [List.filter_cons_of_pos h1,List.filter_cons_of_neg (by rw [h2];decide),this,List.map_cons,List.sum_cons];omega
  ·have hm:n∈l:=by
    rcases List.mem_cons.mp h with z|z
    ·exact absurd z.symm ha
    ·exact z
   have ih:=ag_2 (f:=f) nd.2 hm h1 h2 h3;have e:=h3 a ha;cases hp:P a with
   |true=>
    rw [List.filter_cons_of_pos hp,List.filter_cons_of_pos (by rw [e];exact hp),List.map_cons,List.sum_cons,List.map_cons,List.sum_cons,ih];omega
   |false=>rw [List.filter_cons_of_neg (by rw [hp];decide),List.filter_cons_of_neg (by rw [e,hp];decide),ih]
def cz_0{E:List (List Nat)}{T:List Nat}{n:Nat}{ps:List Nat}(he:E[n]? =some ps)(hn:n∉T):En E T=En E (T ++ [n]) + ps.length:=by
 have hlt:n < E.length:=(List.getElem?_eq_some_iff.mp he).1;unfold En;rw [ag_2 (f:=λn=>(E.getD n []).length) (n:=n) (Q:=λm=>decide (m∉T ++ [n])) List.nodup_range (List.mem_range.mpr hlt) (by simpa using hn) (by simp) λm hm=>by simp [hm]];simp only [List.getD_eq_getElem?_getD,he,Option.getD_some]
def du_4(E:List (List Nat)):En E []=tot E:=by
 unfold En tot;have:(List.range E.length).filter (λn=>decide (n∉([]:List Nat)))=List.range E.length:=by
  rw [List.filter_eq_self];simp
 rw [this]
 congr 1
 apply List.ext_getElem
 ·simp
 ·intro i h1 h2;simp only [List.getElem_map,List.getElem_range];have hi:i < E.length:=by simpa using h2
  rw [List.getD_eq_getElem?_getD,List.getElem?_eq_getElem hi,Option.getD_some]
theorem dj_9:∀{l:List Nat} {x:Nat},x∈l->x<=l.sum
 |a::l,x,h=>by
  rw [List.sum_cons];rcases List.mem_cons.mp h with z|z
  ·omega
  ·have:=dj_9 z;omega
def turn{E:List (List Nat)}{st:Cu}{ord:List (Nat×Nat)}(h:Peel E st ord)(hE:E.length<=900)(a1 a6 a7 a8:Sl){s2:Sl}(hs:stSl st s2){w:List Nat}{p:Nat}(hp:(Bx st p).isSome=true)(hW:w.length + tot E<=100000)(ho:ord.length<=900):
  ∃st' aj w' s2' a8',Peel E st' aj/\stSl st' s2'/\(∀q∈w',q∈w\/∃m,RE E m q)/\aj.length<=ord.length + 1/\w'.length + En E (aj.map (·.1))=w.length + En E (ord.map (·.1))/\st'.map (·.1)=st.map (·.1)/\((∀q m,Bx st q=some [m]->q∈w ++ [p])->∀q m,Bx st' q=some [m]->q∈w')/\
   v_1 [.sh (.lst (eL E)),a1,s2,.ow (.lst (zi (w ++ [p]))),.ow (.lst (Cg ord)),.ow (.dic (inner (ord.map (·.1)))),a6,a7,a8]=.nx [.sh (.lst (eL E)),a1,s2',.ow (.lst (zi w')),.ow (.lst (Cg aj)),.ow (.dic (inner (aj.map (·.1)))),a6,.sh (.int (p:Int)),a8']:=by
 have kk:∀k:Nat,Di (.int (k:Int))=some (kp k):=λ_=>rfl;have z1:(zi (w ++ [p]))[(zi (w ++ [p])).length - 1]? =some (.int (p:Int)):=by
  rw [y_5];unfold zi;rw [List.getElem?_map,List.length_append];simp
 have z2:(zi (w ++ [p])).dropLast=zi w:=by unfold zi;rw [List.map_append];simp
 have t1:cc_1 7 3 [.sh (.lst (eL E)),a1,s2,.ow (.lst (zi (w ++ [p]))),.ow (.lst (Cg ord)),.ow (.dic (inner (ord.map (·.1)))),a6,a7,a8]=.nx (Qd E a1 s2 w ord a6 p a8):=by
  simp only [cc_1,List.getElem?_cons_succ,List.getElem?_cons_zero,z1,z2,List.set_cons_succ,List.set_cons_zero]
 cases e:Bx st p with
 |none=>rw [e] at hp;cases hp
 |some ns=>
  have g1:Ed (.dic (Tn.ks (Ca st))) (.int (p:Int))=.ok (.sh (.dic (inner ns))):=by
   simp only [Ed,kk,bw_3,e,Option.map_some]
  have g2:lenK [.dic (inner ns)]=.ok (.sh (.int (ns.length:Int))):=by simp only [lenK,av_8]
  have an:=hs.any
  by_cases hl:(ns.length:Int)=1
  ·obtain⟨n,rfl⟩:=List.length_eq_one_iff.mp (show ns.length=1 by omega);obtain⟨⟨ps,he,hpp⟩,_⟩:=((h.rep.at_ p [n] e).2 n).mp (by simp);obtain⟨h',hn⟩:=h.next e he;have m1:minK [.dic (inner [n])]=.ok (.sh (.int (n:Int))):=rfl;have hT:=du_3 st n ps λq hq=>h.keys n q ⟨ps,he,hq⟩;have hI:Cf (.lst (eL E)) (.int (n:Int))=.ok (.sh (eT ps)):=bf_0 (as_0 (dw_8 he));have gb:Ds (inner (ord.map (·.1))) (kp n) (.bl true)=inner ((ord ++ [(n,p)]).map (·.1)):=by
    rw [bo_9,if_neg hn,List.map_append];rfl
   have hlo:(Cg ord).length < 16777216:=by unfold Cg;rw [List.length_map];omega
   have hli:(inner (ord.map (·.1))).length < 16777216:=by rw [av_8,List.length_map];omega
   have hps:ps.length<=tot E:=by
    unfold tot;have hm:ps.length∈E.map List.length:=List.mem_map.mpr ⟨ps,List.mem_of_getElem? he,rfl⟩;exact dj_9 hm
   have hlw:(zi w).length + (zi ps).length<=16777216:=by rw [y_5,y_5];omega
   refine⟨Fu st n ps,ord ++ [(n,p)],w ++ ps,.tr (.dic (Ca (Fu st n ps))),.sh (.int (n:Int)),h',.inl rfl,λq hq=> ?_,by simp, ?_,al_0 n ps st,λhc q m eq=> ?_, ?_⟩
   ·rcases List.mem_append.mp hq with z|z
    ·exact .inl z
    ·exact .inr ⟨n,ps,he,z⟩
   ·rw [List.length_append,cz_0 he hn,List.map_append];show w.length + ps.length + En E (ord.map (·.1) ++ [n])=_;omega
   ·rw [bc_0] at eq
    by_cases hq:q∈ps
    ·exact List.mem_append_right _ hq
    ·rw [if_neg hq] at eq;rcases List.mem_append.mp (hc q m eq) with z|z
     ·exact List.mem_append_left _ z
     ·have:q=p:=by simpa using z
      subst this;exact absurd hpp hq
   ·unfold v_1;rw [Bq t1];have hz:zi w ++ zi ps=zi (w ++ ps):=by unfold zi;rw [List.map_append]
    have ho2:Cg ord ++ [.tup [.int (n:Int),.int (p:Int)]]=Cg (ord ++ [(n,p)]):=by unfold Cg;rw [List.map_append];rfl
    have ht:=hs.tree;have u1:Ah 8 [2,7] (Aj minK (Aa (Ak Ed (Ab 2) (Ab 7)) Ac)) (Qd E a1 s2 w ord a6 p a8)=.nx (Qd E a1 s2 w ord a6 p (.sh (.int (n:Int)))):=by
     have v1:Aj minK (Aa (Ak Ed (Ab 2) (Ab 7)) Ac) (Bb (Qd E a1 s2 w ord a6 p a8))=.no:=by
      rcases hs with rfl|⟨_,rfl⟩ <;> rfl
     have v2:Aj minK (Aa (Ak Ed (Ab 2) (Ab 7)) Ac) (As (Qd E a1 s2 w ord a6 p a8))=.ok (.sh (.int (n:Int))):=by
      simp_arith [Am,an,g1,m1]
     unfold Ah;rw [v1,v2];rfl
    have u5:be_7 2 p_5 (Ab 8) (Ak Cf (Ab 0) (Ab 8)) [.sh (.lst (eL E)),a1,s2,.ow (.lst (zi w)),.ow (.lst (Cg (ord ++ [(n,p)]))),.ow (.dic (inner ((ord ++ [(n,p)]).map (·.1)))),a6,.sh (.int (p:Int)),.sh (.int (n:Int))]=.nx [.sh (.lst (eL E)),a1,.tr (.dic (Ca (Fu st n ps))),.ow (.lst (zi w)),.ow (.lst (Cg (ord ++ [(n,p)]))),.ow (.dic (inner ((ord ++ [(n,p)]).map (·.1)))),a6,.sh (.int (p:Int)),.sh (.int (n:Int))]:=by
     simp_arith [be_7,Am,Option.bind_some,ht,hI,hT,Sl.mk]
    have test:Ao (Ak Cv (Aj lenK (Aa (Ak Ed (Ab 2) (Ab 7)) Ac)) (eC (.int 1))) (As (Qd E a1 s2 w ord a6 p a8))=.ok true:=by
     have g3:lenK [.dic (inner [n])]=.ok (.sh (.int 1)):=rfl
     simp_arith [Am,an,g1,g3,Ek]
    unfold Bw;rw [test];show Af _ _ _=_;rw [Bq u1];have u2:∀g:FS,Af (Ef 4 (eTup (Aa (Ab 8) (Aa (Ab 7) Ac)))) g (Qd E a1 s2 w ord a6 p (.sh (.int (n:Int))))=g [.sh (.lst (eL E)),a1,s2,.ow (.lst (zi w)),.ow (.lst (Cg (ord ++ [(n,p)]))),.ow (.dic (inner (ord.map (·.1)))),a6,.sh (.int (p:Int)),.sh (.int (n:Int))]:=λg=>Bq (by simp_arith [Ef,Am,hlo,ho2]);have u3:∀g:FS,Af (ar_2 5 [] (Ab 8) (eC (.bl true))) g [.sh (.lst (eL E)),a1,s2,.ow (.lst (zi w)),.ow (.lst (Cg (ord ++ [(n,p)]))),.ow (.dic (inner (ord.map (·.1)))),a6,.sh (.int (p:Int)),.sh (.int (n:Int))]=g [.sh (.lst (eL E)),a1,s2,.ow (.lst (zi w)),.ow (.lst (Cg (ord ++ [(n,p)]))),.ow (.dic (inner ((ord ++ [(n,p)]).map (·.1)))),a6,.sh (.int (p:Int)),.sh (.int (n:Int))]:=λg=>Bq (by simp_arith [ar_2,Am,kk,hli,gb]);rw [u2,u3,Bq u5]
    simp_arith [sExt,Am,hI,eT,hlw,hz]
  ·refine⟨st,ord,w,s2,a8,h,hs,λq hq=> .inl hq,by omega,rfl,rfl,λhc q m eq=> ?_, ?_⟩
   ·rcases List.mem_append.mp (hc q m eq) with z|z
    ·exact z
    ·have:q=p:=by simpa using z
     subst this;rw [e] at eq;cases eq;exact absurd rfl hl
   unfold v_1;rw [Bq t1];have test:Ao (Ak Cv (Aj lenK (Aa (Ak Ed (Ab 2) (Ab 7)) Ac)) (eC (.int 1))) (As (Qd E a1 s2 w ord a6 p a8))=.ok false:=by
    simp_arith [Am,an,g1,g2,Ek,hl]
   unfold Bw;rw [test];rfl
abbrev Qe(E:List (List Nat))(ij:Int)(s2':Sl)(ord:List (Nat×Nat))(x0 x1 x2 x3:Sl):SE:=[.sh (.lst (eL E)),.sh (.int ij),s2',.ow (.lst []),.ow (.lst (Cg ord)),x0,x1,x2,x3]
def cz_1(E:List (List Nat))(hE:E.length<=900)(hT:tot E<=900)(a1 a6:Sl):∀(k:Nat) (st:Cu) (ord:List (Nat×Nat)) (w:List Nat) (s2 a7 a8:Sl) (fuel:Nat),Peel E st ord->stSl st s2->(∀q∈w,(Bx st q).isSome=true)->w.length + En E (ord.map (·.1))=k->k < fuel->k<=1800->(∀q m,Bx st q=some [m]->q∈w)->
  ∃st' aj s2' a7' a8',Peel E st' aj/\stSl st' s2'/\(∀q m,Bx st' q≠some [m])/\
   Gb [3] ae_2 v_1 fuel [.sh (.lst (eL E)),a1,s2,.ow (.lst (zi w)),.ow (.lst (Cg ord)),.ow (.dic (inner (ord.map (·.1)))),a6,a7,a8]=.nx [.sh (.lst (eL E)),a1,s2',.ow (.lst []),.ow (.lst (Cg aj)),.ow (.dic (inner (aj.map (·.1)))),a6,a7',a8']:=by
 intro k
 induction k with
 |zero=>
  intro st ord w s2 a7 a8 fuel h hs hw hk hf _ hc;have hw0:w= []:=List.eq_nil_of_length_eq_zero (by omega);subst hw0;obtain⟨f,rfl⟩:∃f,fuel=f + 1:=⟨fuel - 1,by omega⟩;refine⟨st,ord,s2,a7,a8,h,hs,λq m eq=> ?_,av_2 ?_⟩
  ·have:=hc q m eq;simp at this
  ·rcases hs with rfl|⟨_,rfl⟩ <;> rfl
 |succ k ih=>
  intro st ord w s2 a7 a8 fuel h hs hw hk hf hb hc;obtain⟨f,rfl⟩:∃f,fuel=f + 1:=⟨fuel - 1,by omega⟩;rcases List.eq_nil_or_concat w with rfl|⟨w0,p,rfl⟩
  ·refine⟨st,ord,s2,a7,a8,h,hs,λq m eq=> ?_,av_2 ?_⟩
   ·have:=hc q m eq;simp at this
   ·rcases hs with rfl|⟨_,rfl⟩ <;> rfl
  ·have ho:ord.length<=900:=by
    have:=few h.nd (n:=E.length) λx hx=>by
     obtain⟨y,hy,rfl⟩:=List.mem_map.mp hx;exact(h.ok y hy).lt
    rw [List.length_map] at this;omega
   rw [List.concat_eq_append] at *
   obtain⟨st',aj,w',s2',a8',h',hs',hw',_,hm',hk',hc',e⟩:=turn h hE a1 a6 a7 a8 hs (w:=w0) (p:=p) (hw p (by simp)) (by rw [List.length_append] at hk;simp at hk;omega) ho;have cg:∀q,(Bx st q).isSome=true->(Bx st' q).isSome=true:=λq z=>by
    rw [<-lk_mem,hk',lk_mem];exact z
   obtain⟨st2,eh,s3,a7',dz,h2,hs2,hc2,e2⟩:=ih st' aj w' s2' (.sh (.int (p:Int))) a8' f h' hs' (λq hq=>by
    rcases hw' q hq with z|⟨m,z⟩
    ·exact cg q (hw q (by simp [z]))
    ·exact h'.keys m q z) (by rw [hm'];rw [List.length_append] at hk;simp at hk;omega) (by omega) (by omega) (hc' hc)
   refine⟨st2,eh,s3,a7',dz,h2,hs2,hc2, ?_⟩;rw [cc_8 (Δ':=[.sh (.lst (eL E)),a1,s2',.ow (.lst (zi w')),.ow (.lst (Cg aj)),.ow (.dic (inner (aj.map (·.1)))),a6,.sh (.int (p:Int)),a8']) ?_ e]
   ·exact e2
   ·have hz:(0:Int) < ((zi (w0 ++ [p])).length:Int):=by rw [y_5,List.length_append];simp
    simp_arith [ae_2,Am,cm_2,k_3,cc_7,hz]
def Ec(E:List (List Nat))(ord:List (Nat×Nat)):List Nat:=(List.range E.length).filter λn=>decide (n∉ord.map (·.1))
def bp_0(n:Nat):Ci 0 n=zi (List.range n):=by
 unfold Ci zi;apply List.map_congr_left;intro k _;rw [Int.zero_add]
def cz_2(E:List (List Nat))(ij:Int)(hE:E.length<=900)(hT:tot E<=900):∃(st:Cu) (ord:List (Nat×Nat)),Peel E st ord/\(∀q m,Bx st q≠some [m])/\
  ar_7 [.lst (eL E),.int ij]=.ok (.tr (.tup [Tn.of (.lst (Cg ord)),Tn.of (.lst (zi (Ec E ord)))])):=by
 obtain⟨st,s2,r,hs,hl,w,ew,hw⟩:=cy_8 E hE hT;have P0:Peel E st []:=⟨r.imp λn p=>by simp,by simp,λx h=>by simp at h,λx h=>by simp at h,by simp,λn p z=>r.all n p z⟩;have cv:(Tn.ks (Ca st)).map (λp=>kD p.1)=zi (st.map (·.1)):=by
  rw [cn_2,List.map_map];unfold zi;rw [List.map_map];rfl
 obtain⟨st',ord,s2',a7,a8,h',hs',hc',e⟩:=cz_1 E hE hT (.sh (.int ij)) .no (st.length + tot E) st [] (st.map (·.1)) s2 .no .no 3000 P0 hs (λq hq=>lk_mem.mp hq) (by rw [List.length_map,List.map_nil,du_4]) (by omega) (by omega) (λq m eq=>lk_mem.mpr (by rw [eq];rfl));refine⟨st',ord,h',hc', ?_⟩;have t1:Ah 2 [0] (Ap 1 q_9 (Aa (Ab 0) Ac)) (Az 9 [.lst (eL E),.int ij])=.nx [.sh (.lst (eL E)),.sh (.int ij),s2,.no,.no,.no,.no,.no,.no]:=by
  rcases hw with⟨rfl,rfl⟩|⟨_,rfl,rfl⟩
  ·simp_arith [Am,ew]
  ·simp_arith [Am,ew]
 have t2:cc_2 3 (Aj cr_8 (Aa (Ab 2) Ac)) [.sh (.lst (eL E)),.sh (.int ij),s2,.no,.no,.no,.no,.no,.no]=.nx [.sh (.lst (eL E)),.sh (.int ij),s2,.ow (.lst (zi (st.map (·.1)))),.no,.no,.no,.no,.no]:=by
  have hf:(zi (st.map (·.1))).all Bc=true:=by
   unfold zi;rw [List.all_map,List.all_eq_true];intro x _;rfl
  simp_arith [cc_2,Am,hs.any,cr_8,cv,hf]
 have ef:∀b2 b3 b4 b7 b8:Option D,Bt 1 (Av Ch (Aa (Aj By (Aa (Ab 0) Ac)) Ac)) (gC 9) n_9 (Ab 9) [some (.lst (eL E)),some (.int ij),b2,b3,b4,some (.dic (inner (ord.map (·.1)))),none,b7,b8]=.ok (.ow (.lst (zi (Ec E ord)))):=λb2 b3 b4 b7 b8=>by
  have hr:Av Ch (Aa (Aj By (Aa (Ab 0) Ac)) Ac) [some (.lst (eL E)),some (.int ij),b2,b3,b4,some (.dic (inner (ord.map (·.1)))),none,b7,b8]=.ok (zi (List.range E.length)):=by
   have zm:(eL E).length=E.length:=by unfold eL;rw [List.length_map]
   simp_arith [Am,k_3,zm,n_8 (show -4611686018427387903<=(E.length:Int) by omega) (by omega),Int.toNat_natCast,bp_0]
  refine Go (m:=1) hr (by rw [y_5,List.length_range];omega) ?_;have hc:=ac_0 (fg:=gC 9) (p:=n_9) (f:=Ab 9) (δ:=[some (.lst (eL E)),some (.int ij),b2,b3,b4,some (.dic (inner (ord.map (·.1)))),none,b7,b8,none]) (λd=>match d with| .int i=>decide (i.toNat∉ord.map (·.1))|_=>false) (λd=>d) (zi (List.range E.length)) (λd hd=>by
   obtain⟨n,hn,rfl⟩:=List.mem_map.mp hd;refine⟨[some (.lst (eL E)),some (.int ij),b2,b3,b4,some (.dic (inner (ord.map (·.1)))),none,b7,b8,some (.int (n:Int))],rfl, ?_,λ_=>⟨.sh (.int (n:Int)),rfl,rfl⟩⟩;have hk:Di (.int (n:Int))=some (kp n):=rfl
   simp_arith [n_9,Am,inK,hk,bg_2,Int.toNat_natCast]
   by_cases h:n∈ord.map (·.1)
   ·simp only [h,decide_true,Bool.not_true,not_true,decide_false]
   ·simp only [h,decide_false,Bool.not_false,not_false_eq_true,decide_true])
  rw [List.map_id'] at hc;show Ee _ _ _ _ _=_;refine hc.trans ?_;unfold zi Ec;rw [List.filter_map]
  congr 1
 obtain⟨a5,t6⟩:∃a5,Ah 6 [0,5] (Bt 1 (Av Ch (Aa (Aj By (Aa (Ab 0) Ac)) Ac)) (gC 9) n_9 (Ab 9)) (Qe E ij s2' ord (.ow (.dic (inner (ord.map (·.1))))) .no a7 a8)=.nx (Qe E ij s2' ord a5 (.ow (.lst (zi (Ec E ord)))) a7 a8):=by
  cases hn:E.length with
  |zero=>
   have e0:E= []:=List.eq_nil_of_length_eq_zero hn;subst e0;refine⟨.ow (.dic (inner (ord.map (·.1)))), ?_⟩;have v1:Bt 1 (Av Ch (Aa (Aj By (Aa (Ab 0) Ac)) Ac)) (gC 9) n_9 (Ab 9) (Bb [.sh (.lst (eL [])),.sh (.int ij),s2',.ow (.lst []),.ow (.lst (Cg ord)),.ow (.dic (inner (ord.map (·.1)))),.no,a7,a8])=.ok (.ow (.lst [])):=rfl;unfold Ah;rw [v1];rfl
  |succ n=>
   refine⟨.sh (.dic (inner (ord.map (·.1)))), ?_⟩;have v1:Bt 1 (Av Ch (Aa (Aj By (Aa (Ab 0) Ac)) Ac)) (gC 9) n_9 (Ab 9) (Bb (Qe E ij s2' ord (.ow (.dic (inner (ord.map (·.1))))) .no a7 a8))=.no:=by
    have hr:Av Ch (Aa (Aj By (Aa (Ab 0) Ac)) Ac) (Bb (Qe E ij s2' ord (.ow (.dic (inner (ord.map (·.1))))) .no a7 a8))=.ok (zi (List.range (n + 1))):=by
     have zm:(eL E).length=n + 1:=by unfold eL;rw [List.length_map,hn]
     simp_arith [Am,k_3,zm,n_8 (show -4611686018427387903<=((n + 1:Nat):Int) by omega) (by omega),Int.toNat_natCast,bp_0]
    have hz:zi (List.range (n + 1))=.int 0::zi ((List.range n).map Nat.succ):=by rw [List.range_succ_eq_map];rfl
    unfold Bt;rw [hr,R.bind_ok,if_pos (by rw [y_5,List.length_range];omega),hz];rfl
   have v2:=ef (Sl.any s2') (some (.lst [])) (some (.lst (Cg ord))) (Sl.any a7) (Sl.any a8);have v3:=ef (Sl.pub s2') none none (Sl.pub a7) (Sl.pub a8);unfold Ah;rw [v1];have v2':Bt 1 (Av Ch (Aa (Aj By (Aa (Ab 0) Ac)) Ac)) (gC 9) n_9 (Ab 9) (As (Qe E ij s2' ord (.ow (.dic (inner (ord.map (·.1))))) .no a7 a8))=.ok (.ow (.lst (zi (Ec E ord)))):=v2;have g1:gsome [0,5] (Qe E ij s2' ord (.ow (.dic (inner (ord.map (·.1))))) .no a7 a8)=(Qe E ij s2' ord (.sh (.dic (inner (ord.map (·.1))))) .no a7 a8):=rfl;have v3':Bt 1 (Av Ch (Aa (Aj By (Aa (Ab 0) Ac)) Ac)) (gC 9) n_9 (Ab 9) (Bb (Qe E ij s2' ord (.sh (.dic (inner (ord.map (·.1))))) .no a7 a8))=.ok (.ow (.lst (zi (Ec E ord)))):=v3;simp only [v2',W.d_ow,Bc,Bool.false_eq_true,if_false,g1,v3',Dw,List.set_cons_succ,List.set_cons_zero]
 refine x_2 ?_;unfold ce_7;rw [Bq t1,Bq t2];have t3:Ah 4 [] (Dh Ac) [.sh (.lst (eL E)),.sh (.int ij),s2,.ow (.lst (zi (st.map (·.1)))),.no,.no,.no,.no,.no]=.nx [.sh (.lst (eL E)),.sh (.int ij),s2,.ow (.lst (zi (st.map (·.1)))),.ow (.lst []),.no,.no,.no,.no]:=rfl;have t4:Ah 5 [] ar_1 [.sh (.lst (eL E)),.sh (.int ij),s2,.ow (.lst (zi (st.map (·.1)))),.ow (.lst []),.no,.no,.no,.no]=.nx [.sh (.lst (eL E)),.sh (.int ij),s2,.ow (.lst (zi (st.map (·.1)))),.ow (.lst []),.ow (.dic []),.no,.no,.no]:=rfl;rw [Bq t3,Bq t4];have e':Gb [3] ae_2 v_1 3000 [.sh (.lst (eL E)),.sh (.int ij),s2,.ow (.lst (zi (st.map (·.1)))),.ow (.lst []),.ow (.dic []),.no,.no,.no]=_:=e;rw [Bq e',Bq t6];rfl
def ay_5(p n:Nat):m_1 [.int (p:Int),.int (n:Int)]=.ok (.sh (.bl (decide (p < n)))):=by
 simp_arith [m_1,ao_9,Am,ao_3,cr_9,Et,show(0:Int)<=(p:Int) by omega]
 rw [show decide ((p:Int) < (n:Int))=decide (p < n) by simp]
def as_3(z m:Int)(h:0 < m):t_0 [.int z,.int m]=.ok (.sh (.int (z % m))):=by
 simp_arith [t_0,ax_9,Am,Ek,show¬m=0 by omega,Fx h]
def Ex(ts:List Int)(p:Nat):Int:=ts.getD p 0
def Dx(ts:List Int)(ps:List Nat):Int:=(ps.map (Ex ts)).sum
def ed_7{ts:List Int}{p:Nat}(h:p < ts.length):atI (ts.map D.int) (p:Int)=some (.int (Ex ts p)):=by
 refine as_0 ?_;rw [List.getElem?_map];simp [Ex,List.getD,h]
def du_5(ts:List Int)(a1 a2 a3:Option D)(ps:List Nat)(h:∀p∈ps,p < ts.length):
  Ee (gC 4) y_1 y_0 [some (.lst (ts.map .int)),a1,a2,a3,none] (zi ps)=.ok ((ps.map λp=>D.int (Ex ts p))):=by
 have:=ac_0 (fg:=gC 4) (p:=y_1) (f:=y_0) (δ:=[some (.lst (ts.map .int)),a1,a2,a3,none]) (λ_=>true) (λd=>match d with| .int i=> .int (Ex ts i.toNat)|d=>d) (zi ps) λd hd=>by
  obtain⟨p,hp,rfl⟩:=List.mem_map.mp hd;have hl:=h p hp;refine⟨[some (.lst (ts.map .int)),a1,a2,a3,some (.int (p:Int))],rfl, ?_,λ_=>⟨.sh (.int (Ex ts p)), ?_,by simp⟩⟩
  ·simp_arith [y_1,Am,k_3,List.length_map,ay_5,hl]
  ·simp_arith [y_0,Am,bf_0 (ed_7 hl)]
 rw [this,List.filter_eq_self.mpr λ_ _=>rfl]
 congr 1
 unfold zi;rw [List.map_map];refine List.map_congr_left λp _=> ?_;simp
def bp_1(ts:List Int)(ps:List Nat)(m:Int)(hm:0 < m)(h:∀p∈ps,p < ts.length)(hl:ps.length<=1000):p_6 [.lst (ts.map .int),.tup (zi ps),.int m]=.ok (.sh (.int (Dx ts ps % m))):=by
 have ec:=Go (m:=1) (fi:=Cr (Ab 1)) (fg:=gC 4) (p:=y_1) (f:=y_0) (δ:=[some (.lst (ts.map .int)),some (.tup (zi ps)),some (.int m),none]) (ds:=zi ps) (by simp_arith [Am]) (by unfold zi;rw [List.length_map];omega) (du_5 ts _ _ _ ps h)
 simp_arith [p_6,ce_8,Am,ec,ed_0,as_3 _ m hm]
 rfl
def al_1(l:List Int)(i p:Nat)(v:Int):Ex (l.set i v) p=if p=i/\i < l.length then v else Ex l p:=by
 unfold Ex;rw [List.getD_eq_getElem?_getD,List.getElem?_set]
 by_cases h:i=p
 ·subst h
  by_cases h2:i < l.length
  ·simp [h2]
  ·simp [h2,List.getD]
 ·have:¬p=i:=λz=>h z.symm;simp [h,this]
def ay_6{ts us:List Int}:∀{ps:List Nat},(∀p∈ps,Ex ts p=Ex us p)->Dx ts ps=Dx us ps:=by
 intro ps h;unfold Dx;rw [List.map_congr_left h]
def dk_0(S w m:Int)(h0:0<=w)(h1:w < m):(S + (w - S % m) % m) % m=w:=by
 have e:(S + (w - S % m) % m) % m=(S + (w - S % m)) % m:=by
  rw [Int.add_emod,Int.emod_emod_of_dvd _ (Int.dvd_refl m),<-Int.add_emod]
 rw [e];have h2:=Int.mul_ediv_add_emod S m;have e2:S + (w - S % m)=w + m * (S / m):=by omega
 rw [e2,Int.add_mul_emod_self_left];exact Int.emod_eq_of_lt h0 h1
def z_7(E:List (List Nat))(w:List Int)(m:Int)(ts:List Int)(x:Nat×Nat):List Int:=ts.set x.2 ((w.getD x.1 0 - Dx ts (E.getD x.1 []) % m) % m)
def Do(E:List (List Nat))(w:List Int)(m:Int)(ij:Nat)(L:List (Nat×Nat)):List Int:=L.foldl (z_7 E w m) (List.replicate ij 0)
def av_9(E:List (List Nat))(w:List Int)(m:Int)(ij:Nat)(L:List (Nat×Nat)):(Do E w m ij L).length=ij:=by
 unfold Do;have:∀(L:List (Nat×Nat)) (ts:List Int),(L.foldl (z_7 E w m) ts).length=ts.length:=λL=>by
  induction L with
  |nil=>intro ts;rfl
  |cons x L ih=>intro ts;show(L.foldl (z_7 E w m) (z_7 E w m ts x)).length=_;rw [ih];unfold z_7;rw [List.length_set]
 rw [this,List.length_replicate]
def bg_3(E:List (List Nat))(w:List Int)(m:Int)(ij:Nat)(L:List (Nat×Nat))(x:Nat×Nat):Do E w m ij (L ++ [x])=z_7 E w m (Do E w m ij L) x:=by
 unfold Do;rw [List.foldl_append];rfl
def cg_4{ord:List (Nat×Nat)}{i:Nat}{d:D}(h:(Cg ord)[i]? =some d):∃x,ord[i]? =some x/\d=.tup [.int (x.1:Int),.int (x.2:Int)]:=by
 unfold Cg at h;rw [List.getElem?_map] at h;obtain⟨x,e1,e2⟩:=Option.map_eq_some_iff.mp h;exact⟨x,e1,e2.symm⟩
def cn_7(E:List (List Nat))(w:List Int)(m:Int)(ij:Nat)(ord:List (Nat×Nat))(hm:0 < m)(hz:ij<=100000)(ho:∀x∈ord,∃ps,E[x.1]? =some ps/\(∀p∈ps,p < ij)/\ps.length<=1000/\x.2 < ij/\x.1 < w.length):
  ai_7 [.lst (eL E),.int (ij:Int),.lst (Cg ord),.lst (w.map .int),.int m]=.ok (.ow (.lst ((Do E w m ij ord.reverse).map .int))):=by
 have de:(Cg ord).reverse=Cg ord.reverse:=by unfold Cg;rw [List.map_reverse]
 obtain⟨Δ',e,a6,a7,a8,rfl⟩:=h_9 (Fj 6 7) ap_0 (λk Δ=>∃a6 a7 a8,Δ= [.sh (.lst (eL E)),.sh (.int (ij:Int)),.sh (.lst (Cg ord)),.sh (.lst (w.map .int)),.sh (.int m),.ow (.lst ((Do E w m ij (ord.reverse.take k)).map .int)),a6,a7,a8]) (ds:=(Cg ord).reverse)
  (Δ:=[.sh (.lst (eL E)),.sh (.int (ij:Int)),.sh (.lst (Cg ord)),.sh (.lst (w.map .int)),.sh (.int m),.ow (.lst ((Do E w m ij []).map .int)),.no,.no,.no]) ⟨_,_,_,rfl⟩ (λk d Δ hk hI=>by
   obtain⟨a6,a7,a8,rfl⟩:=hI;rw [de] at hk;obtain⟨⟨n,p⟩,hx,rfl⟩:=cg_4 hk;obtain⟨ps,he,hp1,hp2,hp3,hw⟩:=ho (n,p) (List.mem_reverse.mp (List.mem_of_getElem? hx));simp only at he hp3 hw;have hl:=av_9 E w m ij (ord.reverse.take k);have hs:=bp_1 (Do E w m ij (ord.reverse.take k)) ps m hm (λq hq=>by rw [hl];exact hp1 q hq) hp2;have hxn:=dw_6 (n:=((Do E w m ij (ord.reverse.take k)).map D.int).length) (i:=p) (by rw [List.length_map,hl];exact hp3);have hI:Cf (.lst (eL E)) (.int (n:Int))=.ok (.sh (eT ps)):=bf_0 (as_0 (dw_8 he));have hW:Cf (.lst (w.map .int)) (.int (n:Int))=.ok (.sh (.int (w.getD n 0))):=bf_0 (as_0 (by rw [List.getElem?_map,List.getElem?_eq_getElem hw,List.getD_eq_getElem?_getD,List.getElem?_eq_getElem hw];rfl));have hs':p_6 [.lst ((Do E w m ij (ord.reverse.take k)).map .int),eT ps,.int m]=.ok (.sh (.int (Dx (Do E w m ij (ord.reverse.take k)) ps % m))):=hs;refine⟨_,rfl,[.sh (.lst (eL E)),.sh (.int (ij:Int)),.sh (.lst (Cg ord)),.sh (.lst (w.map .int)),.sh (.int m),.ow (.lst ((Do E w m ij (ord.reverse.take (k + 1))).map .int)),.sh (.int (n:Int)),.sh (.int (p:Int)),.sh (.int (w.getD n 0 - Dx (Do E w m ij (ord.reverse.take k)) ps % m))],.inl ?_,_,_,_,rfl⟩;have hsn:Do E w m ij (ord.reverse.take (k + 1))=(Do E w m ij (ord.reverse.take k)).set p ((w.getD n 0 - Dx (Do E w m ij (ord.reverse.take k)) ps % m) % m):=by
    rw [List.take_add_one,hx];show Do E w m ij (ord.reverse.take k ++ [(n,p)])=_;rw [bg_3];unfold z_7;simp only [List.getD_eq_getElem?_getD,he,Option.getD_some]
   rw [hsn]
   simp_arith [ap_0,Am,Fj,hI,hW,hs',be_9,ay_5,hp3,cr_3,as_3 _ m hm,hxn]
   rw [List.map_set])
 have e0:(List.replicate (ij:Int).toNat [D.int 0]).flatten=(Do E w m ij []).map .int:=by
  unfold Do;rw [List.foldl_nil,List.map_replicate,Int.toNat_natCast];generalize ij=n
  induction n with
  |zero=>rfl
  |succ n ih=>rw [List.replicate_succ,List.flatten_cons,ih,List.replicate_succ];rfl
 have hr:repD [D.int 0] (.int (ij:Int))=.ok (.ow (.lst ((Do E w m ij []).map .int))):=by
  unfold repD;simp only [List.length_cons,List.length_nil];rw [if_pos ⟨by omega,by omega⟩,e0]
 have hle:(Cg ord).reverse.length=ord.reverse.length:=by rw [de];unfold Cg;rw [List.length_map]
 rw [hle,List.take_length] at e;have er:iRev (Ab 2) (Bb [.sh (.lst (eL E)),.sh (.int (ij:Int)),.sh (.lst (Cg ord)),.sh (.lst (w.map .int)),.sh (.int m),.ow (.lst ((Do E w m ij []).map .int)),.no,.no,.no])=.ok (Cg ord).reverse:=by
  simp_arith [iRev,dw_1,Am]
 simp only [Bb,List.map_cons,List.map_nil,cm_1,dh_1,dh_2] at er
 simp_arith [ai_7,ce_9,Am,eRep,hr,Cb,er,e]
def dk_1(E:List (List Nat))(w:List Int){m:Int}(hm:0 < m)(ij:Nat)(L:List (Nat×Nat))(p:Nat):0<=Ex (Do E w m ij L) p/\Ex (Do E w m ij L) p < m:=by
 unfold Do;have:∀(L:List (Nat×Nat)) (ts:List Int),(∀p,0<=Ex ts p/\Ex ts p < m)->∀p,0<=Ex (L.foldl (z_7 E w m) ts) p/\Ex (L.foldl (z_7 E w m) ts) p < m:=λL=>by
  induction L with
  |nil=>intro ts h p;exact h p
  |cons x L ih=>
   intro ts h p;refine ih _ (λq=> ?_) p;unfold z_7;rw [al_1]
   split
   ·exact⟨Int.emod_nonneg _ (by omega),Int.emod_lt_of_pos _ hm⟩
   ·exact h q
 refine this L _ (λq=> ?_) p;unfold Ex;rw [List.getD_eq_getElem?_getD,List.getElem?_replicate]
 split
 ·exact⟨Int.le_refl _,hm⟩
 ·exact⟨Int.le_refl _,hm⟩
theorem bp_2{ts:List Int}{p:Nat}{v:Int}(hp:p < ts.length):∀{ps:List Nat},ps.Nodup->p∈ps->Dx (ts.set p v) ps=Dx ts ps - Ex ts p + v
 |a::ps,nd,h=>by
  rw [List.nodup_cons] at nd;have c1:Dx (ts.set p v) (a::ps)=Ex (ts.set p v) a + Dx (ts.set p v) ps:=by unfold Dx;rw [List.map_cons,List.sum_cons]
  have c2:Dx ts (a::ps)=Ex ts a + Dx ts ps:=by unfold Dx;rw [List.map_cons,List.sum_cons]
  rw [c1,c2]
  by_cases ha:a=p
  ·subst ha;rw [al_1,if_pos ⟨rfl,hp⟩,ay_6 (us:=ts) λq hq=>by
    rw [al_1,if_neg]
    rintro ⟨rfl,_⟩
    exact nd.1 hq]
   omega
  ·have hm:p∈ps:=by
    rcases List.mem_cons.mp h with z|z
    ·exact absurd z.symm ha
    ·exact z
   rw [al_1,if_neg (λz=>ha z.1),bp_2 hp nd.2 hm];omega
theorem bp_3{E:List (List Nat)}{w:List Int}{m:Int}{ij:Nat}(hm:0 < m):∀(ord:List (Nat×Nat)),(∀x∈ord,∃ps,E[x.1]? =some ps/\ps.Nodup/\x.2∈ps/\x.2 < ij/\0<=w.getD x.1 0/\w.getD x.1 0 < m)->(ord.Pairwise λx y=>¬RE E y.1 x.2)->
  (∀x∈ord,Dx (Do E w m ij ord.reverse) (E.getD x.1 []) % m=w.getD x.1 0)/\∀p,(∀x∈ord,x.2≠p)->Ex (Do E w m ij ord.reverse) p=0
 | [],_,_=>⟨λx h=>by simp at h,λp _=>by
   unfold Do Ex;simp only [List.reverse_nil,List.foldl_nil,List.getD_eq_getElem?_getD,List.getElem?_replicate]
   split <;> rfl⟩
 |(n,p)::ord,h,pw=>by
  rw [List.pairwise_cons] at pw;obtain⟨i1,i2⟩:=bp_3 hm ord (λx hx=>h x (List.mem_cons_of_mem _ hx)) pw.2;obtain⟨ps,he,nd,hp,hlt,w0,w1⟩:=h (n,p) (by simp);simp only at he hp hlt w0 w1;have er:Do E w m ij ((n,p)::ord).reverse=z_7 E w m (Do E w m ij ord.reverse) (n,p):=by rw [List.reverse_cons,bg_3]
  have hg:E.getD n []=ps:=by rw [List.getD_eq_getElem?_getD,he];rfl
  have z0:Ex (Do E w m ij ord.reverse) p=0:=i2 p λx hx z=>by
   obtain⟨qs,e1,_,e2,_⟩:=h x (List.mem_cons_of_mem _ hx);exact pw.1 x hx ⟨qs,e1,z▸e2⟩
  have hl:=av_9 E w m ij ord.reverse;rw [er];refine⟨λx hx=> ?_,λq hq=> ?_⟩
  ·rcases List.mem_cons.mp hx with rfl|hx
   ·simp only;unfold z_7;simp only;rw [hg,bp_2 (by rw [hl];exact hlt) nd hp,z0,Int.sub_zero];exact dk_0 _ _ _ w0 w1
   ·obtain⟨qs,e1,_,_,_⟩:=h x (List.mem_cons_of_mem _ hx);have hn:p∉qs:=λz=>pw.1 x hx ⟨qs,e1,z⟩;have hg2:E.getD x.1 []=qs:=by rw [List.getD_eq_getElem?_getD,e1];rfl
    rw [<-i1 x hx];unfold z_7;rw [hg2]
    congr 1
    refine ay_6 λq hq=> ?_;rw [al_1,if_neg]
    rintro ⟨rfl,_⟩
    exact hn hq
  ·unfold z_7;rw [al_1,if_neg (λz=>hq (n,p) (by simp) z.1.symm)];exact i2 q λx hx=>hq x (List.mem_cons_of_mem _ hx)
def bp_4(n s z:Int)(hz:0 < z):0<=Ge n s z/\Ge n s z < z:=⟨Int.emod_nonneg _ (by omega),Int.emod_lt_of_pos _ hz⟩
def Fh(d:D)(salt ia ib:Int):List Nat:=(List.range ia.toNat).map λ(k:Nat)=>(y_4 d salt ib (k:Int)).toNat
def al_2(d:D)(salt ib:Int)(hp:0 < ib)(j:Int)(hj:0<=j):0<=y_4 d salt ib j/\j * ib<=y_4 d salt ib j/\y_4 d salt ib j < (j + 1) * ib:=by
 obtain⟨h0,h1⟩:=bp_4 (q_4 d) (4 * salt + j) ib hp;have e:(j + 1) * ib=j * ib + ib:=by rw [Int.add_mul,Int.one_mul]
 have h2:0<=j * ib:=Int.mul_nonneg hj (by omega);unfold y_4;omega
def bg_4(d:D)(salt ia ib:Int)(hp:0 < ib):ak_9 d salt ia ib=zi (Fh d salt ia ib):=by
 unfold ak_9 zi Fh;rw [List.map_map];apply List.map_congr_left;intro k _;show D.int (y_4 d salt ib (0 + (k:Int)))=.int (((y_4 d salt ib (k:Int)).toNat:Nat):Int);rw [Int.zero_add,Int.toNat_of_nonneg (al_2 d salt ib hp k (by omega)).1]
def cn_8(d:D)(salt ia ib:Int)(hp:0 < ib):(Fh d salt ia ib).Nodup:=by
 unfold Fh;rw [List.nodup_iff_pairwise_ne,List.pairwise_map];refine List.Pairwise.imp (R:=λa b:Nat=>a < b) (λ{a b} h=> ?_) (List.pairwise_lt_range);obtain⟨a0,a1,a2⟩:=al_2 d salt ib hp a (by omega);obtain⟨b0,b1,b2⟩:=al_2 d salt ib hp b (by omega);have:((a:Int) + 1) * ib<=(b:Int) * ib:=Int.mul_le_mul_of_nonneg_right (by omega) (by omega);omega
def ap_7(d:D)(salt ia ib:Int)(hp:0 < ib)(hk:0<=ia):∀p∈Fh d salt ia ib,p < (ia * ib).toNat:=by
 intro p h;obtain⟨k,hk',rfl⟩:=List.mem_map.mp h;have hk':=List.mem_range.mp hk';obtain⟨a0,a1,a2⟩:=al_2 d salt ib hp k (by omega);have:((k:Int) + 1) * ib<=ia * ib:=Int.mul_le_mul_of_nonneg_right (by omega) (by omega);omega
def z_8(d:D)(salt ia ib:Int):(Fh d salt ia ib).length=ia.toNat:=by unfold Fh;simp
def El(ks:List D)(salt ia:Int):List (List Nat):=ks.map λd=>Fh d salt ia (Be (ks.length:Int) ia)
def bp_5(ks:List D)(salt ia:Int)(hp:0 < Be (ks.length:Int) ia):cn_1 ks salt ia=eL (El ks salt ia):=by
 unfold cn_1 eL El;rw [List.map_map];apply List.map_congr_left;intro d _;show D.tup _=D.tup _;rw [bg_4 d salt ia _ hp]
theorem bp_6{α:Type}(c:Nat):∀(l:List α) (f:α->Nat),(∀a∈l,f a=c)->(l.map f).sum=l.length * c
 | [],f,_=>by simp
 |a::l,f,h=>by
  rw [List.map_cons,List.sum_cons,bp_6 c l f λb hb=>h b (List.mem_cons_of_mem _ hb),h a (by simp),List.length_cons,Nat.add_mul,Nat.one_mul,Nat.add_comm]
def cn_9(ks:List D)(salt ia:Int):tot (El ks salt ia)=ks.length * ia.toNat:=by
 unfold tot El;rw [List.map_map];exact bp_6 ia.toNat ks _ λd _=>z_8 d salt ia _
def co_0(a b:D):(W.tr (.tup [Tn.of a,Tn.of b])).d=.tup [a,b]:=by
 show D.tup [(Tn.of a).d,(Tn.of b).d]=_;rw [Tn.of_d,Tn.of_d]
structure Ks(ks:List D)(salt ia:Int):Prop where
 k:∀k∈ks,isKey k
 nd:ks.Nodup
 h1:1<=ks.length
 h2:ks.length<=200
 s0:0<=salt
 s1:salt<=1000000000000
 kd:ia=2\/ia=3
def du_6{ks:List D}{salt ia:Int}(h:Ks ks salt ia):∃st ord,Peel (El ks salt ia) st ord/\(∀q m,Bx st q≠some [m])/\
  Gf [.lst ks,.int salt,.int ia]=.ok (.tr (.tup [Tn.of (.lst (Cg ord)),Tn.of (.lst (zi (Ec (El ks salt ia) ord)))])):=by
 obtain⟨p1,_,p3,p4⟩:=s_0 (ks.length:Int) ia (by have:=h.h1;omega) (by have:=h.h2;omega) h.kd;have h2:=h.h2;have gm:=cn_9 ks salt ia;have hk3:ia.toNat<=3:=by have:=h.kd;omega
 have hle:ks.length * ia.toNat<=200 * 3:=Nat.mul_le_mul h2 hk3;obtain⟨st,ord,hP,hC,e⟩:=cz_2 (El ks salt ia) (ia * Be (ks.length:Int) ia) (by unfold El;rw [List.length_map];omega) (by omega);refine⟨st,ord,hP,hC, ?_⟩;have ee:=cg_3 h.k h.nd h.h1 h.h2 salt ia h.s0 h.s1 h.kd;rw [bp_5 ks salt ia p3] at ee;have mm:Dg (.int ia) (.int (Be (ks.length:Int) ia))=.ok (.sh (.int (ia * Be (ks.length:Int) ia))):=Ep (Gm (by have:=h.kd;omega) (by have:=h.kd;omega))
 simp_arith [Gf,di_1,Am,ee,k_3,p1,mm,e]
def al_3{ks:List D}{salt ia:Int}(h:Ks ks salt ia):∃b:Bool,g_3 [.lst ks,.int salt,.int ia]=.ok (.sh (.bl b))/\(b=true->∃ord:List (Nat×Nat),(∀n,n < ks.length->n∈ord.map (·.1))/\(∃st,Peel (El ks salt ia) st ord)/\
  Gf [.lst ks,.int salt,.int ia]=.ok (.tr (.tup [Tn.of (.lst (Cg ord)),Tn.of (.lst [])]))):=by
 obtain⟨st,ord,hP,hC,e⟩:=du_6 h;have hx:Cf (.tup [.lst (Cg ord),.lst (zi (Ec (El ks salt ia) ord))]) (.int 1)=.ok (.sh (.lst (zi (Ec (El ks salt ia) ord)))):=bb_4 (as_0 (i:=1) rfl);refine⟨decide (((zi (Ec (El ks salt ia) ord)).length:Int)=0), ?_,λhb=> ?_⟩
 ·simp_arith [g_3,bf_6,Am,e,co_0,hx,k_3,Ek]
 ·have hb:=of_decide_eq_true hb;have hz:Ec (El ks salt ia) ord= []:=by
   apply List.eq_nil_of_length_eq_zero;rw [y_5] at hb;omega
  refine⟨ord,λn hn=> ?_,⟨st,hP⟩,by rw [e,hz];rfl⟩
  by_cases hm:n∈ord.map (·.1)
  ·exact hm
  ·exfalso;have:n∈Ec (El ks salt ia) ord:=by
    unfold Ec;rw [List.mem_filter];exact⟨List.mem_range.mpr (by unfold El;rw [List.length_map];exact hn),decide_eq_true hm⟩
   rw [hz] at this;simp at this
theorem dw_9{P:Nat->Prop}:∀n,(∃k,k < n/\P k)->∃k,k < n/\P k/\∀j,j < k->¬P j
 |0,⟨k,h,_⟩=>by omega
 |n + 1,⟨k,hk,hp⟩=>by
  by_cases h:∃j,j < n/\P j
  ·obtain⟨j,h1,h2,h3⟩:=dw_9 n h;exact⟨j,by omega,h2,h3⟩
  ·exact⟨k,hk,hp,λj hj z=>h ⟨j,by omega,z⟩⟩
def xNoTry:Xn:=⟨"NoTry",[],[]⟩
def as_4{ks:List D}{ia:Int}(h:Ks ks 0 ia)(ig:Int)(m0:0<=ig)(m1:ig<=1000):(Df [.lst ks,.int ia,.int ig]=.ex xNoTry/\∀j:Nat,(j:Int) < ig->g_3 [.lst ks,.int (j:Int),.int ia]=.ok (.sh (.bl false)))\/
  ∃s:Nat,(s:Int) < ig/\Df [.lst ks,.int ia,.int ig]=.ok (.sh (.int (s:Int)))/\g_3 [.lst ks,.int (s:Int),.int ia]=.ok (.sh (.bl true))/\∀j:Nat,j < s->g_3 [.lst ks,.int (j:Int),.int ia]=.ok (.sh (.bl false)):=by
 have hS:∀s:Nat,s<=1000->Ks ks (s:Int) ia:=λs hs=>⟨h.k,h.nd,h.h1,h.h2,by omega,by omega,h.kd⟩;have hr:Av Ch (Aa (Ab 2) Ac) (Bb [.sh (.lst ks),.sh (.int ia),.sh (.int ig),.no])=.ok (Ci 0 ig.toNat):=by
  simp_arith [Am,n_8 (show -4611686018427387903<=ig by omega) (by omega)]
 have t0:Cj [0] (Ap 1 j_1 (Aa (Ab 0) Ac)) (Az 4 [.lst ks,.int ia,.int ig])=.nx [.sh (.lst ks),.sh (.int ia),.sh (.int ig),.no]:=by
  simp_arith [Am,bw_2 h.k h.nd h.h1 h.h2]
 have body:∀(k:Nat) (a3:Sl),k<=1000->∀b:Bool,g_3 [.lst ks,.int (k:Int),.int ia]=.ok (.sh (.bl b))->o_8 [.sh (.lst ks),.sh (.int ia),.sh (.int ig),.sh (.int (k:Int))]=if b then .rt (.sh (.int (k:Int))) else .nx [.sh (.lst ks),.sh (.int ia),.sh (.int ig),.sh (.int (k:Int))]:=λk a3 _ b e=>by
  cases b <;> simp_arith [o_8,Am,e]
 by_cases hx:∃k,k < ig.toNat/\g_3 [.lst ks,.int ((k:Nat):Int),.int ia]=.ok (.sh (.bl true))
 ·obtain⟨s,s1,s2,s3⟩:=dw_9 _ hx;right;refine⟨s,by omega, ?_,s2,λj hj=> ?_⟩
  rotate_left
  ·obtain⟨b,eb,_⟩:=al_3 (hS j (by omega));cases b with
   |false=>exact eb
   |true=>exact absurd eb (s3 j hj)
  have e:=dj_2 (gV 3) o_8 (λk Δ=>∃a3,Δ= [.sh (.lst ks),.sh (.int ia),.sh (.int ig),a3]) (ds:=Ci 0 ig.toNat) (Δ:=[.sh (.lst ks),.sh (.int ia),.sh (.int ig),.no]) (n:=s) (r:=.rt (.sh (.int (s:Int)))) (d:=.int (0 + (s:Int))) ⟨_,rfl⟩ (by
    unfold Ci;rw [List.getElem?_map,List.getElem?_range s1];rfl) (λk d Δ hk hd hI=>by
    obtain⟨a3,rfl⟩:=hI;obtain⟨_,rfl⟩:=au_3 hd;obtain⟨b,eb,_⟩:=al_3 (hS k (by omega));have hb:b=false:=by
     cases b with
     |false=>rfl
     |true=>exact absurd eb (s3 k hk)
    subst hb;rw [Int.zero_add];refine⟨_,rfl,_,.inl ((body k a3 (by omega) false eb)),_,rfl⟩) (λ Δ hI=>by
    obtain⟨a3,rfl⟩:=hI;rw [Int.zero_add];exact⟨_,rfl,body s a3 (by omega) true s2⟩) rfl
  refine x_2 ?_;unfold ai_6;rw [Bq t0];unfold Af Cb;rw [hr];simp only [e]
 ·left;refine⟨?_,λj hj=> ?_⟩
  rotate_left
  ·obtain⟨b,eb,_⟩:=al_3 (hS j (by omega));cases b with
   |false=>exact eb
   |true=>exact absurd ⟨j,by omega,eb⟩ hx
  obtain⟨Δ',e,a3,rfl⟩:=h_9 (gV 3) o_8 (λk Δ=>∃a3,Δ= [.sh (.lst ks),.sh (.int ia),.sh (.int ig),a3]) (ds:=Ci 0 ig.toNat) (Δ:=[.sh (.lst ks),.sh (.int ia),.sh (.int ig),.no]) ⟨_,rfl⟩ (λk d Δ hd hI=>by
   obtain⟨a3,rfl⟩:=hI;obtain⟨hk,rfl⟩:=au_3 hd;obtain⟨b,eb,_⟩:=al_3 (hS k (by omega));have hb:b=false:=by
    cases b with
    |false=>rfl
    |true=>exact absurd ⟨k,hk,eb⟩ hx
   subst hb;rw [Int.zero_add];exact⟨_,rfl,_,.inl (body k a3 (by omega) false eb),_,rfl⟩)
  unfold Df Ag ai_6;rw [Bq t0];have t1:Cb [2] (Av Ch (Aa (Ab 2) Ac)) (gV 3) o_8 [.sh (.lst ks),.sh (.int ia),.sh (.int ig),.no]=.nx [.sh (.lst ks),.sh (.int ia),.sh (.int ig),a3]:=by
   unfold Cb;rw [hr];exact e
  rw [Bq t1];rfl
def t_2(w:Nat)(h:w<=1000):n_1 [.int (w:Int)]=.ok (.sh (.int (2 ^ w))):=by
 obtain⟨Δ',e,a2,rfl⟩:=ak_5 (gV 2) ap_1 (λk Δ=>∃a2,Δ= [.sh (.int (w:Int)),.sh (.int (2 ^ k)),a2]) (n:=w) (lo:=0) (Δ:=[.sh (.int (w:Int)),.sh (.int 1),.no]) ⟨.no,rfl⟩ (λk Δ hk hI=>by
  obtain⟨a2,rfl⟩:=hI;refine⟨_,rfl,[.sh (.int (w:Int)),.sh (.int (2 ^ (k + 1))),.sh (.int (0 + (k:Int)))],.inl ?_,_,rfl⟩
  simp_arith [ap_1,Am,Ep (av_1 (show(-18446744073709551616:Int) < 2 by decide) (by decide))]
  rw [Int.pow_succ])
 have hw:((w:Int)).toNat=w:=by omega
 simp_arith [n_1,cf_0,Am,Cb,n_8 (show(-4611686018427387903:Int)<=w by omega) (by omega),hw,e]
def du_7(r:Int):cq_9 [.int (r % 2)]=.ok (.sh (.str (Bd [48 + (r % 2).toNat]))):=by
 have:r % 2=0\/r % 2=1:=by omega
 rcases this with h|h <;> rw [h] <;> rfl
def ej_4(n:Int)(w k:Nat)(r:Int)(zp:List Nat)(hk:k < w)(h:wr (w - k) r zp=wr w n []):wr (w - (k + 1)) (r / 2) ((48 + (r % 2).toNat)::zp)=wr w n []:=by
 rw [<-h,show w - k=(w - (k + 1)) + 1 by omega];rfl
def as_5(n:Int)(w:Nat)(h:w<=1000):n_3 [.int n,.int (w:Int)]=.ok (.sh (.str (Bd (wr w n [])))):=by
 obtain⟨Δ',e,r,zp,a4,rfl,hw,hl⟩:=ak_5 (gV 4) s_6 (λk Δ=>∃(r:Int) (zp:List Nat) (a4:Sl),Δ= [.sh (.int n),.sh (.int (w:Int)),.sh (.str (Bd zp)),.sh (.int r),a4]/\wr (w - k) r zp=wr w n []/\zp.length=k) (n:=w) (lo:=0)
  (Δ:=[.sh (.int n),.sh (.int (w:Int)),.sh (.str ""),.sh (.int n),.no]) ⟨n,[],.no,rfl,rfl,rfl⟩ (λk Δ hk hI=>by
  obtain⟨r,zp,a4,rfl,hw,hl⟩:=hI;refine⟨_,rfl,[.sh (.int n),.sh (.int (w:Int)),.sh (.str (Bd ((48 + (r % 2).toNat)::zp))),.sh (.int (r / 2)),.sh (.int (0 + (k:Int)))],.inl ?_,r / 2,_,_,rfl,ej_4 n w k r zp hk hw,by simp [hl]⟩;have hc:(Bd [48 + (r % 2).toNat]).length + (Bd zp).length<=16777216:=by rw [u_5,u_5];simp;omega
  simp_arith [s_6,Am,Fx (show(0:Int) < 2 by decide),du_7,dg_8 hc,cs_6,x_7 (show(0:Int) < 2 by decide) (by decide)])
 have ew:((w:Int)).toNat=w:=by omega
 have e2:zp=wr w n []:=by rw [<-hw,Nat.sub_self];rfl
 simp_arith [n_3,ac_4,Am,Cb,n_8 (show(-4611686018427387903:Int)<=w by omega) (by omega),ew,e,e2]
def bg_5(x:Str)(hx:x.length<=100000):r_1 [.str x]=.ok (.sh (.int (rd x.cps.toList 0))):=by
 obtain⟨Δ',e,a2,rfl⟩:=h_9 (gV 2) w_6 (λk Δ=>∃a2,Δ= [.sh (.str x),.sh (.int (rd (x.cps.toList.take k) 0)),a2]) (ds:=t_8 x) (Δ:=[.sh (.str x),.sh (.int 0),.no]) ⟨.no,rfl⟩ (λk d Δ hk hI=>by
  obtain⟨a2,rfl⟩:=hI;unfold t_8 at hk;rw [List.getElem?_map] at hk;cases q:x.cps.toList[k]? with
  |none=>rw [q] at hk;cases hk
  |some c=>
   rw [q] at hk;cases hk;have tk:x.cps.toList.take (k + 1)=x.cps.toList.take k ++ [c]:=by rw [List.take_add_one,q];rfl
   have hs:decide ((⟨#[c]⟩:Str)= "1")=decide (c=49):=by
    by_cases hc:c=49
    ·subst hc;rfl
    ·rw [decide_eq_false hc];refine decide_eq_false λz=>hc ?_;have:(⟨#[c]⟩:Str).cps.toList=("1" :Str).cps.toList:=by rw [z]
     have: [c]= [49]:=this;simpa using this
   refine⟨_,rfl,[.sh (.str x),.sh (.int (rd (x.cps.toList.take (k + 1)) 0)),.sh (.str ⟨#[c]⟩)],.inl ?_,_,rfl⟩;rw [tk,ed_2]
   simp_arith [w_6,Am,Ep (Gm (show(-18446744073709551616:Int) < 2 by decide) (by decide)),dr_7,hs]
   by_cases hc:c=49
   ·subst hc;simp_arith [Am,Gw];rfl
   ·simp_arith [hc,Am,Gw]
    simp [rd,hc])
 have el:(t_8 x).length=x.cps.toList.length:=by unfold t_8;rw [List.length_map]
 rw [el,List.take_length] at e
 simp_arith [r_1,an_0,Am,Cb,e]
theorem cg_5(w:Nat):∀ns:List Int,((ns.map λn=>wr w n []).flatten).length=w * ns.length
 | []=>by simp
 |n::ns=>by
  rw [List.map_cons,List.flatten_cons,List.length_append,cg_5 w ns,ap_5,List.length_cons,Nat.mul_succ];simp;omega
def wrD(w:Nat):D->D
 | .int n=> .str (Bd (wr w n []))
 |d=>d
def bw_6(ns:List Int)(w:Nat)(h1:w<=1000)(h2:ns.length<=10000):aq_9 (.str "") [.lst (ns.map ((wrD w) ∘ D.int))]=.ok (.sh (.str (Bd ((ns.map λn=>wr w n []).flatten)))):=by
 have hj:=cd_0 (λn=>Bd (wr w n [])) ns (by
  rw [List.map_map];have:(ns.map ((λx=>Str.length x) ∘ λn=>Bd (wr w n [])))=ns.map λ_=>w:=by
   apply List.map_congr_left;intro n _;show(Bd (wr w n [])).length=w;rw [u_5,ap_5];rfl
  rw [this];simp only [List.map_const',List.sum_replicate_nat];have:=Nat.mul_le_mul h2 h1;omega)
 have hj':aq_9 (.str "") [.lst (ns.map ((wrD w) ∘ D.int))]=.ok (.sh (.str (Bd ((ns.map λn=>wr w n []).flatten)))):=by
  refine Eq.trans (show _=aq_9 (.str "") [.lst (ns.map λn=> .str (Bd (wr w n [])))] from rfl) (hj.trans ?_)
  congr 3
  apply bt_3;rw [cc_9,l_5,List.map_map]
  congr 1
 exact hj'
def cg_6{z m:Int}(h0:0<=z)(h1:z < m):m_1 [.int z,.int m]=.ok (.sh (.bl true)):=by
 simp_arith [m_1,ao_9,Am,ao_3,cr_9,Et,h0,h1]
def co_1(ns:List Int)(w:Nat)(h1:w<=1000)(h2:ns.length<=10000)(hn:∀n∈ns,0<=n/\n < 2 ^ w):
  ac_5 [.lst (ns.map .int),.int (w:Int)]=.ok (.sh (.str (Bd ((ns.map λn=>wr w n []).flatten)))):=by
 obtain⟨Δ',e,a3,a4,rfl⟩:=h_9 (Fj 3 4) aj_2 (λk Δ=>∃a3 a4,Δ= [.sh (.lst (ns.map .int)),.sh (.int (w:Int)),.sh (.int (2 ^ w)),a3,a4]) (ds:=Fg 0 (ns.map .int))
  (Δ:=[.sh (.lst (ns.map .int)),.sh (.int (w:Int)),.sh (.int (2 ^ w)),.no,.no]) ⟨.no,.no,rfl⟩ (λk d Δ hk hI=>by
  obtain⟨a3,a4,rfl⟩:=hI;obtain⟨d',e1,rfl⟩:=p_9 hk;rw [List.getElem?_map] at e1;cases q:ns[k]? with
  |none=>rw [q] at e1;cases e1
  |some n=>
   rw [q] at e1;cases e1;obtain⟨b1,b2⟩:=hn n (List.mem_of_getElem? q);refine⟨_,rfl,[.sh (.lst (ns.map .int)),.sh (.int (w:Int)),.sh (.int (2 ^ w)),.sh (.int ((0 + k:Nat):Int)),.sh (.int n)],.inl ?_,_,_,rfl⟩
   simp_arith [aj_2,Am,cg_6 b1 b2])
 have ec:=m_9 (fg:=gC 5) (f:=z_5) (δ:=[some (.lst (ns.map .int)),some (.int (w:Int)),some (.int (2 ^ w)),a3.any,a4.any,none]) (wrD w) (ns.map .int) (λd hd=>by
  obtain⟨n,_,rfl⟩:=List.mem_map.mp hd;exact⟨_,.sh (.str (Bd (wr w n []))),rfl,by simp_arith [z_5,Am,as_5 n w h1],rfl⟩)
 rw [List.map_map] at ec;have ec':=Go (m:=1) (fi:=Cr (Ab 0)) (fg:=gC 5) (p:=λ_=> .ok true) (f:=z_5) (δ:=[some (.lst (ns.map .int)),some (.int (w:Int)),some (.int (2 ^ w)),a3.any,a4.any]) (by simp_arith [Am]) (by rw [List.length_map];omega) ec;have hj':=bw_6 ns w h1 h2
 simp_arith [ac_5,bo_4,Am,t_2 w h1,Cb,u_8,au_6,e,ec',hj',beq_self_eq_true]
def dk_2{c:Nat}(h:bit c):((!decide ((⟨#[c]⟩:Str)= "0")) && (!decide ((⟨#[c]⟩:Str)= "1")))=false:=by
 rcases h with rfl|rfl <;> rfl
def bw_7(x:Str)(w m:Nat)(h1:1<=w)(hx:x.length=w * m)(hx2:x.length<=100000)(hb:∀c∈x.cps.toList,bit c):v_9 [.str x,.int (w:Int)]=.ok (.sh .non):=by
 obtain⟨Δ',e,a3,a4,rfl⟩:=h_9 (Fj 2 3) aa_9 (λk Δ=>∃a3 a4,Δ= [.sh (.str x),.sh (.int (w:Int)),a3,a4]) (ds:=Fg 0 (t_8 x))
  (Δ:=[.sh (.str x),.sh (.int (w:Int)),.no,.no]) ⟨.no,.no,rfl⟩ (λk d Δ hk hI=>by
  obtain⟨a3,a4,rfl⟩:=hI;obtain⟨d',e1,rfl⟩:=p_9 hk;unfold t_8 at e1;rw [List.getElem?_map] at e1;cases q:x.cps.toList[k]? with
  |none=>rw [q] at e1;cases e1
  |some c=>
   rw [q] at e1;cases e1;have hs:=dk_2 (hb c (List.mem_of_getElem? q));refine⟨_,rfl,[.sh (.str x),.sh (.int (w:Int)),.sh (.int ((0 + k:Nat):Int)),.sh (.str ⟨#[c]⟩)],.inl ?_,_,_,rfl⟩
   simp_arith [aa_9,Am,dr_8]
   cases e2:decide ((⟨#[c]⟩:Str)= "0") with
   |true=>simp_arith [Am]
   |false=>
    rw [e2] at hs;cases e3:decide ((⟨#[c]⟩:Str)= "1") with
    |true=>simp_arith [Am]
    |false=>rw [e3] at hs;cases hs)
 have c1:¬((w:Int) < 1):=by omega
 have c2:((x.length:Int) % (w:Int)=0):=by rw [hx];simp
 have em:r_0 [.int (x.length:Int),.int (w:Int)]=.ok (.sh (.bl true)):=by
  simp_arith [r_0,am_9,Am,Et,c1,Fx (show(0:Int) < w by omega),Ek,c2]
 simp_arith [v_9,ay_2,Am,Cb,u_8,au_6,e,ar_3 (show x.length<=16777216 by omega),em]
def Gk(l:List Nat)(w:Nat)(m:Nat):List Int:=(List.range m).map λi=>rd ((l.drop (w * i)).take w) 0
def cg_7(l:List Nat)(w m:Nat):Gk l w (m + 1)=Gk l w m ++ [rd ((l.drop (w * m)).take w) 0]:=by
 unfold Gk;rw [List.range_succ,List.map_append];rfl
def bw_8(x:Str)(w m:Nat)(h1:1<=w)(hx:x.length=w * m)(hx2:x.length<=100000)(hm:m < 2999)(hb:∀c∈x.cps.toList,bit c):
  w_0 [.str x,.int (w:Int)]=.ok (.ow (.lst ((Gk x.cps.toList w m).map .int))):=by
 have lw:=cm_3 (js:=[0,3]) (p:=r_2) (g:=v_5) (λi=> [.sh (.str x),.sh (.int (w:Int)),.ow (.lst ((Gk x.cps.toList w i).map .int)),.sh (.int ((w * i:Nat):Int))]) (m:=m) (fuel:=3000) (by omega) (λi hi=>by
  have hlt:w * i + w<=x.length:=by
   rw [hx];have:=Nat.mul_le_mul_left w (show i + 1<=m by omega);rw [Nat.mul_succ] at this;exact this
  have c1:((w * i:Nat):Int) < (x.length:Int):=by omega
  have sl:=cy_0 x (w * i) (w * i + w) (by omega) hlt;have ew:w * i + w - w * i=w:=by omega
  rw [ew] at sl;have nr:=bg_5 (Txt.slice x (some ((w * i:Nat):Int)) (some ((w * i + w:Nat):Int))) (by
   rw [x_1,sl,List.length_take,List.length_drop];omega)
  rw [sl] at nr;have ei:((w * i:Nat):Int) + (w:Int)=((w * i + w:Nat):Int):=by omega
  have hl2:((Gk x.cps.toList w i).map D.int).length < 16777216:=by
   unfold Gk;rw [List.length_map,List.length_map,List.length_range];omega
  refine⟨by simp_arith [r_2,Am,ar_3 (show x.length<=16777216 by omega),Et,c1], ?_⟩
  simp_arith [v_5,Am,Ef,hl2,Gw,ei,be_1,show x.length<=16777216 by omega,nr]
  rw [cg_7,List.map_append,Nat.mul_succ];rfl) (by
  have c1:¬((w * m:Nat):Int) < (x.length:Int):=by omega
  simp_arith [r_2,Am,ar_3 (show x.length<=16777216 by omega),Et,c1])
 have lw':Gb [0,3] r_2 v_5 3000 [.sh (.str x),.sh (.int (w:Int)),.ow (.lst []),.sh (.int 0)]=.nx [.sh (.str x),.sh (.int (w:Int)),.ow (.lst ((Gk x.cps.toList w m).map .int)),.sh (.int ((w * m:Nat):Int))]:=lw
 simp_arith [w_0,ay_3,Am,bw_7 x w m h1 hx hx2 hb,lw']
abbrev Lx:List Str:=["by_salt","kind","part","modulus","listed"]
def Bp(s ia ib m:Int)(T:List Int):D:=.obj "Table" Lx [.int s,.int ia,.int ib,.int m,.lst (T.map .int)]
def y_6(a b c d e:D):z_4 [a,b,c,d,e]=.ok (Lx,[a,b,c,d,e]):=by
 rfl'
def as_6{ks:List D}{s ia:Int}(h:Ks ks s ia)(hs:g_3 [.lst ks,.int s,.int ia]=.ok (.sh (.bl true)))(m:Int)(hm:0 < m)(w:List Int)(hw:w.length=ks.length)(hb:∀i,i < w.length->0<=w.getD i 0/\w.getD i 0 < m):
  ∃T:List Int,(T.length:Int)=ia * Be (ks.length:Int) ia/\(∀t∈T,0<=t/\t < m)/\(∀i d,ks[i]? =some d->Dx T (Fh d s ia (Be (ks.length:Int) ia)) % m=w.getD i 0)/\
   h_1 [.lst ks,.int s,.int ia,.int m,.lst (w.map .int)]=.ok (.sh (Bp s ia (Be (ks.length:Int) ia) m T)):=by
 obtain⟨p1,_,p3,p4⟩:=s_0 (ks.length:Int) ia (by have:=h.h1;omega) (by have:=h.h2;omega) h.kd;obtain⟨b,eb,hb2⟩:=al_3 h;rw [hs] at eb;have hbt:b=true:=by
  injection eb with eb;injection eb with eb;injection eb with eb;exact eb.symm
 obtain⟨ord,hall,⟨st,hP⟩,ef⟩:=hb2 hbt;have hkd:=h.kd;generalize hpart:Be (ks.length:Int) ia=ib at *
 have hsz:0<=ia * ib:=Int.mul_nonneg (by omega) (by omega);have ff:ia * ib<=3 * 2000:=Int.mul_le_mul (by omega) p4 (by omega) (by omega);obtain⟨ij,hsize⟩:∃n:Nat,(n:Int)=ia * ib:=⟨(ia * ib).toNat,by omega⟩;have du:∀n ps,(El ks s ia)[n]? =some ps->∃d,ks[n]? =some d/\ps=Fh d s ia ib:=λn ps e=>by
  unfold El at e;rw [List.getElem?_map] at e;obtain⟨d,e1,e2⟩:=Option.map_eq_some_iff.mp e;exact⟨d,e1,by rw [<-e2,hpart]⟩
 have hok:∀x∈ord,∃ps,(El ks s ia)[x.1]? =some ps/\ps.Nodup/\x.2∈ps/\(∀p∈ps,p < ij)/\ps.length<=1000/\x.1 < ks.length:=λx hx=>by
  obtain⟨ps,e1,e2⟩:=hP.ok x hx;obtain⟨d,e3,rfl⟩:=du x.1 ps e1;refine⟨_,e1,cn_8 d s ia ib p3,e2,λp hp=> ?_, ?_,(List.getElem?_eq_some_iff.mp e3).1⟩
  ·have:=ap_7 d s ia ib p3 (by omega) p hp;omega
  ·rw [z_8];omega
 have e1:=cn_7 (El ks s ia) w m ij ord hm (by omega) λx hx=>by
  obtain⟨ps,k1,k2,k3,k4,k5,k6⟩:=hok x hx;exact⟨ps,k1,k4,k5,k4 _ k3,by omega⟩
 obtain⟨q1,_⟩:=bp_3 (E:=El ks s ia) (w:=w) (ij:=ij) hm ord (λx hx=>by
  obtain⟨ps,k1,k2,k3,k4,k5,k6⟩:=hok x hx;exact⟨ps,k1,k2,k3,k4 _ k3,hb x.1 (by omega)⟩) hP.pw
 refine⟨Do (El ks s ia) w m ij ord.reverse,by rw [av_9];exact hsize,λt ht=> ?_,λi d hd=> ?_, ?_⟩
 ·obtain⟨p,hp,rfl⟩:=List.getElem_of_mem ht;have:=dk_1 (El ks s ia) w hm ij ord.reverse p;unfold Ex at this;rw [List.getD_eq_getElem?_getD,List.getElem?_eq_getElem hp] at this;exact this
 ·have hi:i < ks.length:=(List.getElem?_eq_some_iff.mp hd).1;obtain⟨x,hx,rfl⟩:=List.mem_map.mp (hall i hi);have:=q1 x hx;have hg:(El ks s ia).getD x.1 []=Fh d s ia ib:=by
   unfold El;rw [List.getD_eq_getElem?_getD,List.getElem?_map,hd,hpart];rfl
  rw [hg] at this;exact this
 ·have ee:=cg_3 h.k h.nd h.h1 h.h2 s ia h.s0 h.s1 h.kd;rw [bp_5 ks s ia (by rw [hpart];exact p3)] at ee;have mm:Dg (.int ia) (.int ib)=.ok (.sh (.int (ij:Int))):=by
   rw [hsize];exact Ep (Gm (by omega) (by omega))
  have hx:Cf (.tup [.lst (Cg ord),.lst []]) (.int 0)=.ok (.sh (.lst (Cg ord))):=bb_4 (as_0 (i:=0) rfl);unfold Bp
  simp_arith [h_1,ay_0,Am,k_3,p1,ee,ef,co_0,hx,mm,e1,Es,y_6]
section
variable(s ia ib m:Int)(T:List Int)(r:List (Option D))
def dk_3:Br ["Table"] "by_salt" (Ab 0) (some (Bp s ia ib m T)::r)=.ok (.sh (.int s)):=by rfl'
def dk_4:Br ["Table"] "kind" (Ab 0) (some (Bp s ia ib m T)::r)=.ok (.sh (.int ia)):=by rfl'
def dk_5:Br ["Table"] "part" (Ab 0) (some (Bp s ia ib m T)::r)=.ok (.sh (.int ib)):=by rfl'
def cg_8:Br ["Table"] "modulus" (Ab 0) (some (Bp s ia ib m T)::r)=.ok (.sh (.int m)):=by rfl'
def co_2:Br ["Table"] "listed" (Ab 0) (some (Bp s ia ib m T)::r)=.ok (.sh (.lst (T.map .int))):=by rfl'
def co_3{d:D}{w:W}(h:f_3 [d,.int s,.int ia,.int ib]=.ok w):d_7 [Bp s ia ib m T,d]=.ok w:=by
 simp_arith [d_7,ai_9,Am,dk_3,dk_4,dk_5,h]
end
def cz_3:(Lx:List Str).contains "places" =false:=by decide +kernel
def ed_8(F:List D->R W):([("Table",F)]:List (Str×(List D->R W))).lookup ("Table" :Str)=some F:=by rfl'
def y_7{s ia ib m:Int}{T:List Int}{d:D}{w:W}(h:f_3 [d,.int s,.int ia,.int ib]=.ok w)(fo:FE)(δ:DE)(ho:fo δ=.ok (.sh (Bp s ia ib m T)))(fa:FA)(ha:fa δ=.ok [d]):Bf "places" 1 [("Table",d_7)] fo fa δ=.ok w:=by
 have t:=co_3 s ia ib m T h;unfold Bp at t ho;simp only [Bf,ho,R.bind_ok,W.d_sh,cz_3,Bool.false_eq_true,if_false,ed_8,ha,List.length_cons,List.length_nil,Nat.reduceAdd,if_true,t]
def cz_4{s ia ib m:Int}{T:List Int}{d:D}{ps:List Nat}(hm:0 < m)(h:f_3 [d,.int s,.int ia,.int ib]=.ok (.sh (eT ps)))(hp:∀p∈ps,p < T.length)(hl:ps.length<=1000):c_9 [Bp s ia ib m T,d]=.ok (.sh (.int (Dx T ps % m))):=by
 have hs:p_6 [.lst (T.map .int),eT ps,.int m]=.ok (.sh (.int (Dx T ps % m))):=bp_1 T ps m hm hp hl;have dg:=y_7 (m:=m) (T:=T) h (Ab 0) [some (Bp s ia ib m T),some d] rfl (Aa (Ab 1) Ac) rfl;unfold c_9;refine x_2 ?_;unfold am_6;have e:Ap 3 p_6 (Aa (Br ["Table"] "listed" (Ab 0)) (Aa (Bf "places" 1 [("Table",d_7)] (Ab 0) (Aa (Ab 1) Ac)) (Aa (Br ["Table"] "modulus" (Ab 0)) Ac))) [some (Bp s ia ib m T),some d]=.ok (.sh (.int (Dx T ps % m))):=by
  simp only [Ap,Aa,Ac,co_2,dg,cg_8,R.bind_ok,W.d_sh,List.length_cons,List.length_nil,Nat.reduceAdd,if_true,hs]
 show(match Ap 3 p_6 _ (As [.sh (Bp s ia ib m T),.sh d]) with| .ok w=>Fl.rt w| .ex _=>_| .no=> .no)=_;have e':Ap 3 p_6 (Aa (Br ["Table"] "listed" (Ab 0)) (Aa (Bf "places" 1 [("Table",d_7)] (Ab 0) (Aa (Ab 1) Ac)) (Aa (Br ["Table"] "modulus" (Ab 0)) Ac))) (As [.sh (Bp s ia ib m T),.sh d])=.ok (.sh (.int (Dx T ps % m))):=e;rw [e']
def Dj(ord:List (Nat×Nat)):List (At×D):=ord.map λx=>(Sum.inl (x.1:Int),D.int (x.2:Int))
def plc(ord:List (Nat×Nat))(i:Nat):Nat:=((ord.find? λx=>decide (x.1=i)).map (·.2)).getD 0
def du_8{ord:List (Nat×Nat)}{n p:Nat}(h:n∉ord.map (·.1)):Ds (Dj ord) (.inl (n:Int)) (D.int (p:Int))=Dj (ord ++ [(n,p)]):=by
 unfold Ds;have hno:¬((Dj ord).any λkv=>decide (kv.1=Sum.inl (n:Int)))=true:=λhc=>by
  obtain⟨kv,hm,e⟩:=List.any_eq_true.mp hc;obtain⟨x,hx,rfl⟩:=List.mem_map.mp hm;have e:=of_decide_eq_true e;injection e with e
  exact h (List.mem_map.mpr ⟨x,hx,by omega⟩)
 rw [if_neg hno];unfold Dj;rw [List.map_append];rfl
theorem ct_2:∀(ord:List (Nat×Nat)) (i:Nat),i∈ord.map (·.1)->Dt (Dj ord) (.inl (i:Int))=some (D.int (plc ord i:Nat))
 | [],i,h=>by simp at h
 |x::ord,i,h=>by
  unfold Dt plc Dj;rw [List.map_cons,List.find?_cons,List.find?_cons]
  by_cases c:x.1=i
  ·have c':(Sum.inl (x.1:Int):At)=Sum.inl (i:Int):=by rw [c]
   simp only [c,decide_true,c',Option.map_some,Option.getD_some]
  ·have c':¬(Sum.inl (x.1:Int):At)=Sum.inl (i:Int):=λz=>by injection z with z;omega
   simp only [c,decide_false,c'];exact ct_2 ord i (by
    rcases List.mem_cons.mp h with z|z
    ·exact absurd z.symm c
    ·exact z)
theorem co_4:∀{ord:List (Nat×Nat)} {x:Nat×Nat},(ord.map (·.1)).Nodup->x∈ord->plc ord x.1=x.2
 | [],x,_,h=>by simp at h
 |y::ord,x,nd,h=>by
  rw [List.map_cons,List.nodup_cons] at nd;unfold plc;rw [List.find?_cons];rcases List.mem_cons.mp h with rfl|h
  ·simp
  ·have c:¬y.1=x.1:=λe=>nd.1 (e▸List.mem_map.mpr ⟨x,h,rfl⟩);simp only [c,decide_false];exact co_4 nd.2 h
def cz_5{ks:List D}{s ia:Int}(h:Ks ks s ia)(hs:g_3 [.lst ks,.int s,.int ia]=.ok (.sh (.bl true))):
  ∃C:List Nat,C.length=ks.length/\C.Nodup/\(∀i d,ks[i]? =some d->C.getD i 0∈Fh d s ia (Be (ks.length:Int) ia))/\o_5 [.lst ks,.int s,.int ia]=.ok (.ow (.lst (zi C))):=by
 have h2:=h.h2;obtain⟨b,eb,hb2⟩:=al_3 h;rw [hs] at eb;have hbt:b=true:=by
  injection eb with eb;injection eb with eb;injection eb with eb;exact eb.symm
 obtain⟨ord,hall,⟨st,hP⟩,ef⟩:=hb2 hbt;have hEl:(El ks s ia).length=ks.length:=by unfold El;rw [List.length_map]
 have hlt:∀x∈ord,x.1 < ks.length:=λx hx=>by have:=(hP.ok x hx).lt;omega
 have bf:(ord.map (·.1)).Perm (List.range ks.length):=(List.perm_ext_iff_of_nodup hP.nd List.nodup_range).mpr λn=>by
  rw [List.mem_range];exact⟨λz=>by obtain⟨x,hx,rfl⟩:=List.mem_map.mp z;exact hlt x hx,hall n⟩
 have hol:ord.length=ks.length:=by have:=bf.length_eq;rw [List.length_map,List.length_range] at this;exact this
 have nd2:(ord.map (·.2)).Nodup:=by
  unfold List.Nodup;rw [List.pairwise_map];refine List.Pairwise.imp_of_mem (λ{a b} ha hb hr=> ?_) hP.pw;intro e;exact hr (by rw [e];exact hP.ok b hb)
 have dq:(ord.map (·.1)).map (plc ord)=ord.map (·.2):=by
  rw [List.map_map];exact List.map_congr_left λx hx=>co_4 hP.nd hx
 refine⟨(List.range ks.length).map (plc ord),by simp, ?_,λi d hd=> ?_, ?_⟩
 ·have:=(bf.map (plc ord)).symm;rw [dq] at this;exact this.nodup_iff.mpr nd2
 ·have hi:i < ks.length:=(List.getElem?_eq_some_iff.mp hd).1;rw [List.getD_eq_getElem?_getD,List.getElem?_map,List.getElem?_range hi];obtain⟨x,hx,rfl⟩:=List.mem_map.mp (hall i hi);show plc ord x.1∈_;rw [co_4 hP.nd hx];obtain⟨e,e1,e2⟩:=hP.ok x hx;unfold El at e1;rw [List.getElem?_map,hd] at e1;cases e1;exact e2
 ·have hx:Cf (.tup [.lst (Cg ord),.lst []]) (.int 0)=.ok (.sh (.lst (Cg ord))):=bb_4 (as_0 (i:=0) rfl);obtain⟨Δ',e,a4,a5,rfl⟩:=h_9 (Fj 4 5) l_3 (λk Δ=>∃a4 a5,Δ= [.sh (.lst ks),.sh (.int s),.sh (.int ia),.ow (.dic (Dj (ord.take k))),a4,a5]) (ds:=Cg ord) (Δ:=[.sh (.lst ks),.sh (.int s),.sh (.int ia),.ow (.dic []),.no,.no]) ⟨_,_,rfl⟩ (λk d Δ hd hI=>by
   obtain⟨a4,a5,rfl⟩:=hI;obtain⟨x,hx,rfl⟩:=cg_4 hd;have hkl:k < ord.length:=(List.getElem?_eq_some_iff.mp hx).1;have hn:x.1∉(ord.take k).map (·.1):=λhm=>by
    obtain⟨y,hy,e⟩:=List.mem_map.mp hm;obtain⟨j,hj,e2⟩:=List.getElem_of_mem hy;rw [List.length_take] at hj;have nd:=hP.nd;have h1:(ord.map (·.1))[j]'(by rw [List.length_map];omega)=(ord.map (·.1))[k]'(by rw [List.length_map];exact hkl):=by
     rw [List.getElem_map,List.getElem_map];have:ord[k]=x:=(List.getElem?_eq_some_iff.mp hx).2;rw [this,<-e,<-e2];simp
    exact List.pairwise_iff_getElem.mp nd j k (by rw [List.length_map];omega) (by rw [List.length_map];exact hkl) (by omega) h1
   have hp:=du_8 (p:=x.2) hn;have hl:(Dj (ord.take k)).length < 16777216:=by unfold Dj;rw [List.length_map,List.length_take];omega
   refine⟨_,rfl,[.sh (.lst ks),.sh (.int s),.sh (.int ia),.ow (.dic (Dj (ord.take (k + 1)))),.sh (.int (x.1:Int)),.sh (.int (x.2:Int))],.inl ?_,_,_,rfl⟩;rw [List.take_add_one,hx];show l_3 [.sh (.lst ks),.sh (.int s),.sh (.int ia),.ow (.dic (Dj (ord.take k))),.sh (.int (x.1:Int)),.sh (.int (x.2:Int))]=_
   simp_arith [l_3,Am,ar_2,Di,hl,hp,Option.toList])
  have hTl:(Cg ord).length=ord.length:=by unfold Cg;rw [List.length_map]
  rw [hTl,List.take_length] at e;have t1:Ah 3 [] ar_1 (Az 6 [.lst ks,.int s,.int ia])=.nx [.sh (.lst ks),.sh (.int s),.sh (.int ia),.ow (.dic []),.no,.no]:=rfl;have hi:Cr (Ak Cf (Ap 3 Gf (Aa (Ab 0) (Aa (Ab 1) (Aa (Ab 2) Ac)))) (eC (.int 0))) (Bb [.sh (.lst ks),.sh (.int s),.sh (.int ia),.ow (.dic []),.no,.no])=.ok (Cg ord):=by
   simp_arith [Am,ef,co_0,hx]
  have t2:Cb [0,1,2] (Cr (Ak Cf (Ap 3 Gf (Aa (Ab 0) (Aa (Ab 1) (Aa (Ab 2) Ac)))) (eC (.int 0)))) (Fj 4 5) l_3 [.sh (.lst ks),.sh (.int s),.sh (.int ia),.ow (.dic []),.no,.no]=.nx [.sh (.lst ks),.sh (.int s),.sh (.int ia),.ow (.dic (Dj ord)),a4,a5]:=by
   unfold Cb;rw [hi];exact e
  have ec:=Go (m:=1) (fi:=Av Ch (Aa (Aj By (Aa (Ab 0) Ac)) Ac)) (fg:=gC 6) (p:=λ_=> .ok true) (f:=u_1) (δ:=[some (.lst ks),some (.int s),some (.int ia),some (.dic (Dj ord)),a4.any,a5.any]) (ds:=Ci 0 ks.length) (by simp_arith [Am,k_3,n_8 (show(-4611686018427387903:Int)<=(ks.length:Int) by omega) (by omega),Int.toNat_natCast]) (by rw [k_8];omega)
   (m_9 (λd=>match d with| .int j=> .int (plc ord j.toNat:Nat)|d=>d) (Ci 0 ks.length) λd hd=>by
    obtain⟨j,hj,rfl⟩:=List.mem_map.mp hd;have hj:=List.mem_range.mp hj;refine⟨[some (.lst ks),some (.int s),some (.int ia),some (.dic (Dj ord)),a4.any,a5.any,some (.int (0 + (j:Int)))],.sh (.int (plc ord j:Nat)),rfl, ?_,by simp⟩;have hv:=ct_2 ord j (hall j hj);rw [Int.zero_add]
    simp_arith [u_1,Am,Ed,Di,hv])
  have hz:(Ci 0 ks.length).map (λd=>match d with| .int j=>D.int (plc ord j.toNat:Nat)|d=>d)=zi ((List.range ks.length).map (plc ord)):=by
   unfold Ci zi;rw [List.map_map,List.map_map];apply List.map_congr_left;intro j _;simp
  rw [hz] at ec;refine x_2 ?_;unfold af_4;rw [Bq t1,Bq t2];have hv:As [.sh (.lst ks),.sh (.int s),.sh (.int ia),.ow (.dic (Dj ord)),a4,a5]= [some (.lst ks),some (.int s),some (.int ia),some (.dic (Dj ord)),a4.any,a5.any]:=rfl;unfold An;rw [hv,ec]
def rowU(C:List Nat)(ij:Nat):List Nat:=(List.range ij).map λp=>if p∈C then 49 else 48
def dk_6(C:List Nat)(ij:Nat):(rowU C ij).length=ij:=by unfold rowU;simp
def du_9(n:Nat)(l:List Nat):Cm (.int (n:Int)) (zi l)=decide (n∈l):=by
 induction l with
 |nil=>rfl
 |cons y l ih=>
  unfold Cm zi at ih⊢;rw [List.map_cons,List.any_cons,ih];have:eqF (D.int (y:Int)) (D.int (n:Int))=decide ((y:Int)=(n:Int)):=rfl;rw [this]
  by_cases h:y=n
  ·subst h;simp
  ·have h':¬n=y:=λz=>h z.symm;have h3:¬((y:Int)=(n:Int)):=by omega
   simp [h3,h']
def dk_7(l:List Nat):(zi l).all Bc=true:=by
 unfold zi;rw [List.all_map];exact List.all_eq_true.mpr λ_ _=>rfl
def dk_8(n:Nat)(l:List Nat):inD false (.int (n:Int)) (.lst (zi l))=.ok (.sh (.bl (decide (n∈l)))):=by
 have h:inD false (.int (n:Int)) (.lst (zi l))=if(Bc (.int (n:Int)) && (zi l).all Bc)=true then .ok (.sh (.bl (Cm (.int (n:Int)) (zi l)))) else .no:=rfl
 rw [h,dk_7,if_pos (show(Bc (.int (n:Int)) && true)=true from rfl),du_9]
def ed_9(C:List Nat)(ij:Nat)(hz:ij<=100000):k_9 [.lst (zi C),.int (ij:Int)]=.ok (.sh (.str (Bd (rowU C ij)))):=by
 have ec:=Go (m:=1) (fi:=Av Ch (Aa (Ab 1) Ac)) (fg:=gC 2) (p:=λ_=> .ok true) (f:=p_1) (δ:=[some (.lst (zi C)),some (.int (ij:Int))]) (ds:=Ci 0 ij) (by simp_arith [Am,n_8 (show(-4611686018427387903:Int)<=(ij:Int) by omega) (by omega),Int.toNat_natCast]) (by rw [k_8];omega)
  (m_9 (λd=>match d with| .int j=> .str (Bd [if j.toNat∈C then 49 else 48])|d=>d) (Ci 0 ij) λd hd=>by
   obtain⟨j,hj,rfl⟩:=List.mem_map.mp hd;refine⟨[some (.lst (zi C)),some (.int (ij:Int)),some (.int (0 + (j:Int)))],.sh (.str (Bd [if j∈C then 49 else 48])),rfl, ?_,by simp⟩;rw [Int.zero_add]
   by_cases c:j∈C
   ·simp_arith [p_1,Am,eIf,dk_8,c,decide_true,if_true];rfl
   ·simp_arith [p_1,Am,eIf,dk_8,c,decide_false,if_false];rfl)
 have hz2:(Ci 0 ij).map (λd=>match d with| .int j=>D.str (Bd [if j.toNat∈C then 49 else 48])|d=>d)=(List.range ij).map λp=> .str (Bd [if p∈C then 49 else 48]):=by
  unfold Ci;rw [List.map_map];apply List.map_congr_left;intro j _;simp
 rw [hz2] at ec;have hj:=cd_0 (λp=>Bd [if p∈C then 49 else 48]) (List.range ij) (by
  rw [List.map_map];have:((List.range ij).map ((λx=>Str.length x) ∘ λp=>Bd [if p∈C then 49 else 48]))=(List.range ij).map λ_=>1:=by
   apply List.map_congr_left;intro n _;show(Bd _).length=1;rw [u_5];rfl
  rw [this];simp only [List.map_const',List.sum_replicate_nat,List.length_range];omega)
 have bz:Txt.join (Str.ofString "") ((List.range ij).map λp=>Bd [if p∈C then 49 else 48])=Bd (rowU C ij):=by
  refine bt_3 ?_;rw [l_5,cc_9,List.map_map];unfold rowU;generalize List.range ij=l
  induction l with
  |nil=>rfl
  |cons x l ih=>rw [List.map_cons,List.flatten_cons,ih,List.map_cons];show(Bd _).cps.toList ++ _=_;rw [l_5];rfl
 simp_arith [k_9,af_5,Am,ec,beq_self_eq_true,hj,bz]
def aw_0(t:Tn):Sl.pub (.lt t)=none:=rfl
def x_4{Δ:SE}{i:Nat}{cs:List Str}{f c:Str}{js:List Nat}{fe:FE}{ns:List Str}{ts:List Tn}{w:W}(hg:gsome js Δ=Δ)(h0:Δ[i]? =some (.lt (.obj c ns ts)))(hc:cs.contains c=true/\ns.contains f=false/\ns.length < 1000)(he:fe (Bb Δ)=.ok w):
  Cq i cs f js fe Δ=.nx (Δ.set i (.lt (.obj c (ns ++ [f]) (ts ++ [.sh w.d])))):=by
 unfold Cq;rw [hg];simp only [h0,he,if_pos hc]
def cg_9{Δ:SE}{i:Nat}{c:Str}{js:List Nat}{F:List D->R (List Str×List D)}{fe:FE}{w:W}{p:List Str×List D}(hg:gsome js Δ=Δ)(h0:Δ[i]? =some (.lt (.obj c [] [])))(he:fe (Bb Δ)=.ok w)(hF:F [w.d]=.ok p):
  ai_2 i c js F fe Δ=.nx (Δ.set i (.lt (.obj c p.1 (p.2.map .sh)))):=by
 unfold ai_2;rw [hg];simp only [h0,he,hF,if_true]
def ej_5(d:D):f_6 [d]=.ok (["how_many"],[d]):=by
 rfl'
def ej_6(d:D):e_9 [d]=.ok (["how_many"],[d]):=by
 rfl'
def ee_0{ks:List D}{ia ig:Int}{x:Xn}(e:Df [.lst ks,.int ia,.int ig]=.ex x):v_7 [.lst ks,.int ia,.int ig]=.ex x:=by
 unfold v_7 Fw u_2;have t1:Ah 4 [1,2,3] (Ap 3 Df (Aa (Ab 1) (Aa (Ab 2) (Aa (Ab 3) Ac)))) (n_7 7 "Peeled" [.lst ks,.int ia,.int ig])=.ex x [.lt (.obj "Peeled" [] []),.sh (.lst ks),.sh (.int ia),.sh (.int ig),.no,.no,.no]:=by
  have:Ap 3 Df (Aa (Ab 1) (Aa (Ab 2) (Aa (Ab 3) Ac))) (Bb (n_7 7 "Peeled" [.lst ks,.int ia,.int ig]))=.ex x:=e;unfold Ah;rw [this];rfl
 unfold Af;rw [t1]
def ee_1{ks:List D}{ia ig:Int}{x:Xn}(e:Df [.lst ks,.int ia,.int ig]=.ex x):t_1 [.lst ks,.int ia,.int ig]=.ex x:=by
 unfold t_1 Fw s_4;have t1:Ah 4 [1,2,3] (Ap 3 Df (Aa (Ab 1) (Aa (Ab 2) (Aa (Ab 3) Ac)))) (n_7 5 "Ordered" [.lst ks,.int ia,.int ig])=.ex x [.lt (.obj "Ordered" [] []),.sh (.lst ks),.sh (.int ia),.sh (.int ig),.no]:=by
  have:Ap 3 Df (Aa (Ab 1) (Aa (Ab 2) (Aa (Ab 3) Ac))) (Bb (n_7 5 "Ordered" [.lst ks,.int ia,.int ig]))=.ex x:=e;unfold Ah;rw [this];rfl
 unfold Af;rw [t1]
abbrev Ll:List Str:=["how_many","own_table"]
abbrev Lo:List Str:=["how_many","own_table","used_row"]
def dk_9{ks:List D}{ia ig:Int}(h:Ks ks 0 ia){s:Nat}(hs:s<=1000)(e:Df [.lst ks,.int ia,.int ig]=.ok (.sh (.int (s:Int))))(e2:g_3 [.lst ks,.int (s:Int),.int ia]=.ok (.sh (.bl true))):
  ∃(T:List Int) (U:List Nat),(T.length:Int)=ia * Be (ks.length:Int) ia/\(∀t∈T,0<=t/\t < ia)/\(∀c∈U,bit c)/\(U.length:Int)=ia * Be (ks.length:Int) ia/\v_7 [.lst ks,.int ia,.int ig]=.ok (Lo,[.int (ks.length:Int),Bp (s:Int) ia (Be (ks.length:Int) ia) ia T,.str (Bd U)]):=by
 have h1:=h.h1;have h2:=h.h2;have hK:Ks ks (s:Int) ia:=⟨h.k,h.nd,h.h1,h.h2,by omega,by omega,h.kd⟩;obtain⟨p1,_,p3,p4⟩:=s_0 (ks.length:Int) ia (by omega) (by omega) h.kd;obtain⟨C,c1,c2,c3,c4⟩:=cz_5 hK e2;have hkd:2<=ia/\ia<=3:=by rcases h.kd with z|z <;> omega
 have hat:∀i,i < ks.length->∃d,ks[i]? =some d:=λi hi=>⟨_,List.getElem?_eq_getElem hi⟩;have hq:∀i,i < ks.length->0<=((C.getD i 0:Nat):Int) / Be (ks.length:Int) ia/\((C.getD i 0:Nat):Int) / Be (ks.length:Int) ia < ia:=λi hi=>by
  obtain⟨d,hd⟩:=hat i hi;have hb:=ap_7 d (s:Int) ia (Be (ks.length:Int) ia) p3 (by omega) _ (c3 i d hd);have hnn:0<=ia * Be (ks.length:Int) ia:=Int.mul_nonneg (by omega) (by omega);refine⟨Int.ediv_nonneg (by omega) (by omega),Int.ediv_lt_of_lt_mul p3 ?_⟩;omega
 obtain⟨T,t1,t2,t3,t4⟩:=as_6 hK e2 ia (by omega) (C.map λc:Nat=>(c:Int) / Be (ks.length:Int) ia) (by rw [List.length_map];exact c1) (λi hi=>by
  rw [List.length_map,c1] at hi;have:=hq i hi;rw [List.getD_eq_getElem?_getD,List.getElem?_map,List.getElem?_eq_getElem (by omega:i < C.length)];rw [List.getD_eq_getElem?_getD,List.getElem?_eq_getElem (by omega:i < C.length)] at this;exact this)
 generalize hpart:Be (ks.length:Int) ia=ib at *
 have hsz:0<=ia * ib:=Int.mul_nonneg (by omega) (by omega);have ff:ia * ib<=3 * 2000:=Int.mul_le_mul (by omega) p4 (by omega) (by omega);refine⟨T,rowU C (ia * ib).toNat,t1,t2,λc hc=> ?_,by rw [dk_6];exact Int.toNat_of_nonneg (Int.mul_nonneg (by omega) (by omega)), ?_⟩
 ·unfold rowU at hc;obtain⟨i,_,rfl⟩:=List.mem_map.mp hc
  by_cases q:i∈C
  ·rw [if_pos q];exact .inr rfl
  ·rw [if_neg q];exact .inl rfl
 ·have rw_:=ed_9 C (ia * ib).toNat (by omega);rw [show(((ia * ib).toNat:Nat):Int)=ia * ib by omega] at rw_;have mm:Dg (.int ia) (.int ib)=.ok (.sh (.int (ia * ib))):=Ep (Gm (by omega) (by omega));unfold v_7 Fw u_2;have q1:Ah 4 [1,2,3] (Ap 3 Df (Aa (Ab 1) (Aa (Ab 2) (Aa (Ab 3) Ac)))) (n_7 7 "Peeled" [.lst ks,.int ia,.int ig])=.nx [.lt (.obj "Peeled" [] []),.sh (.lst ks),.sh (.int ia),.sh (.int ig),.sh (.int (s:Int)),.no,.no]:=by
   have:Ap 3 Df (Aa (Ab 1) (Aa (Ab 2) (Aa (Ab 3) Ac))) (Bb (n_7 7 "Peeled" [.lst ks,.int ia,.int ig]))=.ok (.sh (.int (s:Int))):=e;unfold Ah;rw [this];rfl
  have q2:ai_2 0 "Peeled" [1] f_6 (Aj By (Aa (Ab 1) Ac)) [.lt (.obj "Peeled" [] []),.sh (.lst ks),.sh (.int ia),.sh (.int ig),.sh (.int (s:Int)),.no,.no]=.nx [.lt (.obj "Peeled" ["how_many"] [.sh (.int (ks.length:Int))]),.sh (.lst ks),.sh (.int ia),.sh (.int ig),.sh (.int (s:Int)),.no,.no]:=
   cg_9 (w:=.sh (.int (ks.length:Int))) (p:=(["how_many"],[.int (ks.length:Int)])) rfl rfl rfl (ej_5 _)
  have q3:Ah 5 [1,2] (Ap 2 i_4 (Aa (Aj By (Aa (Ab 1) Ac)) (Aa (Ab 2) Ac))) [.lt (.obj "Peeled" ["how_many"] [.sh (.int (ks.length:Int))]),.sh (.lst ks),.sh (.int ia),.sh (.int ig),.sh (.int (s:Int)),.no,.no]=.nx [.lt (.obj "Peeled" ["how_many"] [.sh (.int (ks.length:Int))]),.sh (.lst ks),.sh (.int ia),.sh (.int ig),.sh (.int (s:Int)),.sh (.int ib),.no]:=by
   simp_arith [Am,aw_0,k_3,p1]
  have q4:Ah 6 [1,2,4] (Ap 3 o_5 (Aa (Ab 1) (Aa (Ab 4) (Aa (Ab 2) Ac)))) [.lt (.obj "Peeled" ["how_many"] [.sh (.int (ks.length:Int))]),.sh (.lst ks),.sh (.int ia),.sh (.int ig),.sh (.int (s:Int)),.sh (.int ib),.no]=.nx [.lt (.obj "Peeled" ["how_many"] [.sh (.int (ks.length:Int))]),.sh (.lst ks),.sh (.int ia),.sh (.int ig),.sh (.int (s:Int)),.sh (.int ib),.ow (.lst (zi C))]:=by
   simp_arith [Am,aw_0,c4]
  have ec:=Go (m:=1) (fi:=Cr (Ab 6)) (fg:=gC 7) (p:=λ_=> .ok true) (f:=i_8) (δ:=[none,some (.lst ks),some (.int ia),some (.int ig),some (.int (s:Int)),some (.int ib),some (.lst (zi C))]) (ds:=zi C) (by simp_arith [Am]) (by rw [y_5];omega)
   (m_9 (λd=>match d with| .int c=> .int (c / ib)|d=>d) (zi C) λd hd=>by
    obtain⟨c,hc,rfl⟩:=List.mem_map.mp hd;refine⟨[none,some (.lst ks),some (.int ia),some (.int ig),some (.int (s:Int)),some (.int ib),some (.lst (zi C)),some (.int (c:Int))],.sh (.int ((c:Int) / ib)),rfl, ?_,rfl⟩
    simp_arith [i_8,Am,x_7 p3 (by omega)])
  have hzz:(zi C).map (λd=>match d with| .int c=>D.int (c / ib)|d=>d)=(C.map λc:Nat=>(c:Int) / ib).map .int:=by
   unfold zi;rw [List.map_map,List.map_map];rfl
  rw [hzz] at ec;have q5:Cq 0 La "own_table" [1,2,4,5,6] (Ap 5 h_1 (Aa (Ab 1) (Aa (Ab 4) (Aa (Ab 2) (Aa (Ab 2) (Aa (Bt 1 (Cr (Ab 6)) (gC 7) (λ_=> .ok true) i_8) Ac)))))) [.lt (.obj "Peeled" ["how_many"] [.sh (.int (ks.length:Int))]),.sh (.lst ks),.sh (.int ia),.sh (.int ig),.sh (.int (s:Int)),.sh (.int ib),.ow (.lst (zi C))]=
    .nx [.lt (.obj "Peeled" Ll [.sh (.int (ks.length:Int)),.sh (Bp (s:Int) ia ib ia T)]),.sh (.lst ks),.sh (.int ia),.sh (.int ig),.sh (.int (s:Int)),.sh (.int ib),.sh (.lst (zi C))]:=by
   have he:Ap 5 h_1 (Aa (Ab 1) (Aa (Ab 4) (Aa (Ab 2) (Aa (Ab 2) (Aa (Bt 1 (Cr (Ab 6)) (gC 7) (λ_=> .ok true) i_8) Ac))))) (Bb [.lt (.obj "Peeled" ["how_many"] [.sh (.int (ks.length:Int))]),.sh (.lst ks),.sh (.int ia),.sh (.int ig),.sh (.int (s:Int)),.sh (.int ib),.sh (.lst (zi C))])=.ok (.sh (Bp (s:Int) ia ib ia T)):=by
    simp_arith [Am,aw_0,ec]
    exact t4
   have:=x_4 (Δ:=[.lt (.obj "Peeled" ["how_many"] [.sh (.int (ks.length:Int))]),.sh (.lst ks),.sh (.int ia),.sh (.int ig),.sh (.int (s:Int)),.sh (.int ib),.sh (.lst (zi C))]) (i:=0) (cs:= La) (f:= "own_table") (c:= "Peeled") (js:=[1,2,4,5,6]) (ns:=["how_many"]) (ts:=[.sh (.int (ks.length:Int))]) rfl rfl (by decide +kernel) he;unfold Cq at this⊢;exact this
  have q6:Cq 0 Lj "used_row" [2,5,6] (Ap 2 k_9 (Aa (Ab 6) (Aa (Ak Dg (Ab 2) (Ab 5)) Ac))) [.lt (.obj "Peeled" Ll [.sh (.int (ks.length:Int)),.sh (Bp (s:Int) ia ib ia T)]),.sh (.lst ks),.sh (.int ia),.sh (.int ig),.sh (.int (s:Int)),.sh (.int ib),.sh (.lst (zi C))]=
    .nx [.lt (.obj "Peeled" Lo [.sh (.int (ks.length:Int)),.sh (Bp (s:Int) ia ib ia T),.sh (.str (Bd (rowU C (ia * ib).toNat)))]),.sh (.lst ks),.sh (.int ia),.sh (.int ig),.sh (.int (s:Int)),.sh (.int ib),.sh (.lst (zi C))]:=by
   refine x_4 (w:=.sh (.str (Bd (rowU C (ia * ib).toNat)))) (c:= "Peeled") (ns:= Ll) (ts:=[.sh (.int (ks.length:Int)),.sh (Bp (s:Int) ia ib ia T)]) rfl rfl (by decide +kernel) ?_
   simp_arith [Am,aw_0,mm,rw_]
  rw [Bq q1,Bq q2,Bq q3,Bq q4,Bq q5,q6];simp only [List.getElem?_cons_zero,if_true,unT,Option.map_some]
def dv_0(n:Nat):(Ci 0 n)=(((List.range n).map λk:Nat=>(k:Int)).map D.int):=by
 unfold Ci;rw [List.map_map];apply List.map_congr_left;intro k _;show D.int (0 + (k:Int))=.int (k:Int);rw [Int.zero_add]
def dl_0{ks:List D}{ia ig:Int}(h:Ks ks 0 ia){s:Nat}(hs:s<=1000)(e:Df [.lst ks,.int ia,.int ig]=.ok (.sh (.int (s:Int))))(e2:g_3 [.lst ks,.int (s:Int),.int ia]=.ok (.sh (.bl true))):
  ∃T:List Int,(T.length:Int)=ia * Be (ks.length:Int) ia/\(∀t∈T,0<=t/\t < (ks.length:Int))/\(∀(i:Nat) (d:D),ks[i]? =some d->Dx T (Fh d (s:Int) ia (Be (ks.length:Int) ia)) % (ks.length:Int)=(i:Int))/\
   t_1 [.lst ks,.int ia,.int ig]=.ok (Ll,[.int (ks.length:Int),Bp (s:Int) ia (Be (ks.length:Int) ia) (ks.length:Int) T]):=by
 have h1:=h.h1;have h2:=h.h2;have rg:∀i,i < ks.length->((List.range ks.length).map λk:Nat=>(k:Int)).getD i 0=(i:Int):=λi hi=>by
  rw [List.getD_eq_getElem?_getD,List.getElem?_map,List.getElem?_range hi];rfl
 obtain⟨T,t1,t2,t3,t4⟩:=as_6 (s:=(s:Int)) ⟨h.k,h.nd,h.h1,h.h2,by omega,by omega,h.kd⟩ e2 (ks.length:Int) (by omega) ((List.range ks.length).map λk:Nat=>(k:Int)) (by simp) (λi hi=>by
  have hi':i < ks.length:=by simpa using hi
  rw [rg i hi'];omega)
 refine⟨T,t1,t2,λi d hd=> ?_, ?_⟩
 ·rw [t3 i d hd,rg i (List.getElem?_eq_some_iff.mp hd).1]
 unfold t_1 Fw s_4;have q1:Ah 4 [1,2,3] (Ap 3 Df (Aa (Ab 1) (Aa (Ab 2) (Aa (Ab 3) Ac)))) (n_7 5 "Ordered" [.lst ks,.int ia,.int ig])=.nx [.lt (.obj "Ordered" [] []),.sh (.lst ks),.sh (.int ia),.sh (.int ig),.sh (.int (s:Int))]:=by
  have:Ap 3 Df (Aa (Ab 1) (Aa (Ab 2) (Aa (Ab 3) Ac))) (Bb (n_7 5 "Ordered" [.lst ks,.int ia,.int ig]))=.ok (.sh (.int (s:Int))):=e;unfold Ah;rw [this];rfl
 have q2:ai_2 0 "Ordered" [1] e_9 (Aj By (Aa (Ab 1) Ac)) [.lt (.obj "Ordered" [] []),.sh (.lst ks),.sh (.int ia),.sh (.int ig),.sh (.int (s:Int))]=.nx [.lt (.obj "Ordered" ["how_many"] [.sh (.int (ks.length:Int))]),.sh (.lst ks),.sh (.int ia),.sh (.int ig),.sh (.int (s:Int))]:=by
  refine cg_9 (w:=.sh (.int (ks.length:Int))) (p:=(["how_many"],[.int (ks.length:Int)])) rfl rfl ?_ (ej_6 _)
  simp_arith [Am,k_3]
 have q3:Cq 0 La "own_table" [1,2,4] (Ap 5 h_1 (Aa (Ab 1) (Aa (Ab 4) (Aa (Ab 2) (Aa (Aj By (Aa (Ab 1) Ac)) (Aa (eRng Ch (Aa (Aj By (Aa (Ab 1) Ac)) Ac)) Ac)))))) [.lt (.obj "Ordered" ["how_many"] [.sh (.int (ks.length:Int))]),.sh (.lst ks),.sh (.int ia),.sh (.int ig),.sh (.int (s:Int))]=
   .nx [.lt (.obj "Ordered" Ll [.sh (.int (ks.length:Int)),.sh (Bp (s:Int) ia (Be (ks.length:Int) ia) (ks.length:Int) T)]),.sh (.lst ks),.sh (.int ia),.sh (.int ig),.sh (.int (s:Int))]:=by
  refine x_4 (w:=.sh (Bp (s:Int) ia (Be (ks.length:Int) ia) (ks.length:Int) T)) (c:= "Ordered") (ns:=["how_many"]) (ts:=[.sh (.int (ks.length:Int))]) rfl rfl (by decide +kernel) ?_;have hr:eRng Ch (Aa (Aj By (Aa (Ab 1) Ac)) Ac) [none,some (.lst ks),some (.int ia),some (.int ig),some (.int (s:Int))]=.ok (.ow (.lst (((List.range ks.length).map λk:Nat=>(k:Int)).map D.int))):=by
   rw [<-dv_0]
   simp_arith [Am,aw_0,k_3,eRng,n_8 (show(-4611686018427387903:Int)<=(ks.length:Int) by omega) (by omega),Int.toNat_natCast]
   rw [if_pos (by rw [k_8];omega)]
  simp_arith [Am,aw_0,k_3,hr]
  exact t4
 rw [Bq q1,Bq q2,q3];simp only [List.getElem?_cons_zero,if_true,unT,Option.map_some]
def pelO(n:Int)(t:D)(u:Str):D:=.obj "Peeled" Lo [.int n,t,.str u]
def ordO(n:Int)(t:D):D:=.obj "Ordered" Ll [.int n,t]
def bg_6{vs:List Int}{n:Nat}{m:Int}(hl:vs.length=n)(hn:n<=1000)(hb:∀v∈vs,0<=v/\v < m):j_2 [.lst (vs.map .int),.int (n:Int),.int m]=.ok (.sh .non):=by
 obtain⟨Δ',e,a3,a4,rfl⟩:=h_9 (Fj 3 4) o_6 (λk Δ=>∃a3 a4,Δ= [.sh (.lst (vs.map .int)),.sh (.int (n:Int)),.sh (.int m),a3,a4]) (ds:=Fg 0 (vs.map .int))
  (Δ:=[.sh (.lst (vs.map .int)),.sh (.int (n:Int)),.sh (.int m),.no,.no]) ⟨_,_,rfl⟩ (λk d0 Δ hd hI=>by
   obtain⟨a3,a4,rfl⟩:=hI;obtain⟨d,e1,rfl⟩:=p_9 hd;rw [List.getElem?_map] at e1;obtain⟨v,e2,rfl⟩:=Option.map_eq_some_iff.mp e1;have hk:k < vs.length:=(List.getElem?_eq_some_iff.mp e2).1;have hv:=hb v (List.mem_of_getElem? e2);have c1:¬(n:Int)<=(k:Int):=by omega
   refine⟨[.sh (.lst (vs.map .int)),.sh (.int (n:Int)),.sh (.int m),.sh (.int ((0 + k:Nat):Int)),.sh (.int v)],rfl,[.sh (.lst (vs.map .int)),.sh (.int (n:Int)),.sh (.int m),.sh (.int ((0 + k:Nat):Int)),.sh (.int v)],.inl ?_,_,_,rfl⟩
   simp_arith [o_6,Am,ei_9,c1,cg_6 hv.1 hv.2])
 have c2:¬(n:Int) < (n:Int):=by omega
 have hv:u_8 (Ab 0) (Bb [.sh (.lst (vs.map .int)),.sh (.int (n:Int)),.sh (.int m),.no,.no])=.ok (Fg 0 (vs.map .int)):=by
  simp_arith [u_8,Am,au_6]
 have v4:Cb [0] (u_8 (Ab 0)) (Fj 3 4) o_6 (Az 5 [.lst (vs.map .int),.int (n:Int),.int m])=.nx [.sh (.lst (vs.map .int)),.sh (.int (n:Int)),.sh (.int m),a3,a4]:=by
  show Cb [0] (u_8 (Ab 0)) (Fj 3 4) o_6 [.sh (.lst (vs.map .int)),.sh (.int (n:Int)),.sh (.int m),.no,.no]=_;unfold Cb;rw [hv];exact e
 unfold j_2 Ag am_4;rw [Bq v4]
 simp_arith [Am,k_3,List.length_map,hl,Et,c2]
abbrev Li:List Str:=["how_many","width","own_table"]
def kptO(n width:Int)(t:D):D:=.obj "Kept" Li [.int n,.int width,t]
def dl_1{ks:List D}{ia ig:Int}(h:Ks ks 0 ia)(w:Nat)(hw:w<=100){vs:List Int}(hl:vs.length=ks.length)(hb:∀v∈vs,0<=v/\v < 2 ^ w)(g:FS):
  Af (Ah 6 [3] (Ap 1 n_1 (Aa (Ab 3) Ac))) (Af (Cq 0 La "how_many" [1] (Ap 1 j_1 (Aa (Ab 1) Ac))) (Af (Cj [1,2,6] (Ap 3 j_2 (Aa (Ab 2) (Aa (Aj By (Aa (Ab 1) Ac)) (Aa (Ab 6) Ac))))) g)) (n_7 8 "Kept" [.lst ks,.lst (vs.map .int),.int (w:Int),.int ia,.int ig])=
   g [.lt (.obj "Kept" ["how_many"] [.sh (.int (ks.length:Int))]),.sh (.lst ks),.sh (.lst (vs.map .int)),.sh (.int (w:Int)),.sh (.int ia),.sh (.int ig),.sh (.int (2 ^ w)),.no]:=by
 have h2:=h.h2;have q1:Ah 6 [3] (Ap 1 n_1 (Aa (Ab 3) Ac)) (n_7 8 "Kept" [.lst ks,.lst (vs.map .int),.int (w:Int),.int ia,.int ig])=.nx [.lt (.obj "Kept" [] []),.sh (.lst ks),.sh (.lst (vs.map .int)),.sh (.int (w:Int)),.sh (.int ia),.sh (.int ig),.sh (.int (2 ^ w)),.no]:=by
  have:Ap 1 n_1 (Aa (Ab 3) Ac) (Bb (n_7 8 "Kept" [.lst ks,.lst (vs.map .int),.int (w:Int),.int ia,.int ig]))=.ok (.sh (.int (2 ^ w))):=t_2 w (by omega);unfold Ah;rw [this];rfl
 have q2:Cq 0 La "how_many" [1] (Ap 1 j_1 (Aa (Ab 1) Ac)) [.lt (.obj "Kept" [] []),.sh (.lst ks),.sh (.lst (vs.map .int)),.sh (.int (w:Int)),.sh (.int ia),.sh (.int ig),.sh (.int (2 ^ w)),.no]=.nx [.lt (.obj "Kept" ["how_many"] [.sh (.int (ks.length:Int))]),.sh (.lst ks),.sh (.lst (vs.map .int)),.sh (.int (w:Int)),.sh (.int ia),.sh (.int ig),.sh (.int (2 ^ w)),.no]:=by
  refine x_4 (w:=.sh (.int (ks.length:Int))) (c:= "Kept") (ns:=[]) (ts:=[]) rfl rfl ?_ (bw_2 h.k h.nd h.h1 h.h2);decide +kernel
 have q3:Cj [1,2,6] (Ap 3 j_2 (Aa (Ab 2) (Aa (Aj By (Aa (Ab 1) Ac)) (Aa (Ab 6) Ac)))) [.lt (.obj "Kept" ["how_many"] [.sh (.int (ks.length:Int))]),.sh (.lst ks),.sh (.lst (vs.map .int)),.sh (.int (w:Int)),.sh (.int ia),.sh (.int ig),.sh (.int (2 ^ w)),.no]=.nx [.lt (.obj "Kept" ["how_many"] [.sh (.int (ks.length:Int))]),.sh (.lst ks),.sh (.lst (vs.map .int)),.sh (.int (w:Int)),.sh (.int ia),.sh (.int ig),.sh (.int (2 ^ w)),.no]:=by
  have:Ap 3 j_2 (Aa (Ab 2) (Aa (Aj By (Aa (Ab 1) Ac)) (Aa (Ab 6) Ac))) (As [.lt (.obj "Kept" ["how_many"] [.sh (.int (ks.length:Int))]),.sh (.lst ks),.sh (.lst (vs.map .int)),.sh (.int (w:Int)),.sh (.int ia),.sh (.int ig),.sh (.int (2 ^ w)),.no])=.ok (.sh .non):=bg_6 (n:=ks.length) hl (by omega) hb;unfold Cj;rw [this]
 rw [Bq q1,Bq q2,Bq q3]
def dv_2{ks:List D}{ia ig:Int}(h:Ks ks 0 ia)(w:Nat)(hw:w<=100){vs:List Int}(hl:vs.length=ks.length)(hb:∀v∈vs,0<=v/\v < 2 ^ w)(e:Df [.lst ks,.int ia,.int ig]=.ex xNoTry):ai_8 [.lst ks,.lst (vs.map .int),.int (w:Int),.int ia,.int ig]=.ex xNoTry:=by
 unfold ai_8 Fw w_5;rw [dl_1 h w hw hl hb];have t1:Ah 7 [1,4,5] (Ap 3 Df (Aa (Ab 1) (Aa (Ab 4) (Aa (Ab 5) Ac)))) [.lt (.obj "Kept" ["how_many"] [.sh (.int (ks.length:Int))]),.sh (.lst ks),.sh (.lst (vs.map .int)),.sh (.int (w:Int)),.sh (.int ia),.sh (.int ig),.sh (.int (2 ^ w)),.no]=.ex xNoTry [.lt (.obj "Kept" ["how_many"] [.sh (.int (ks.length:Int))]),.sh (.lst ks),.sh (.lst (vs.map .int)),.sh (.int (w:Int)),.sh (.int ia),.sh (.int ig),.sh (.int (2 ^ w)),.no]:=by
  have:Ap 3 Df (Aa (Ab 1) (Aa (Ab 4) (Aa (Ab 5) Ac))) (Bb [.lt (.obj "Kept" ["how_many"] [.sh (.int (ks.length:Int))]),.sh (.lst ks),.sh (.lst (vs.map .int)),.sh (.int (w:Int)),.sh (.int ia),.sh (.int ig),.sh (.int (2 ^ w)),.no])=.ex xNoTry:=e;unfold Ah;rw [this]
 unfold Af;rw [t1]
abbrev Lv:List Str:=["how_many","width"]
def cz_6{ks:List D}{ia ig:Int}(h:Ks ks 0 ia)(w:Nat)(hw:w<=100){vs:List Int}(hl:vs.length=ks.length)(hb:∀v∈vs,0<=v/\v < 2 ^ w){s:Nat}(hs:s<=1000)(e:Df [.lst ks,.int ia,.int ig]=.ok (.sh (.int (s:Int))))(e2:g_3 [.lst ks,.int (s:Int),.int ia]=.ok (.sh (.bl true))):
  ∃T:List Int,(T.length:Int)=ia * Be (ks.length:Int) ia/\(∀t∈T,0<=t/\t < 2 ^ w)/\(∀(i:Nat) (d:D),ks[i]? =some d->Dx T (Fh d (s:Int) ia (Be (ks.length:Int) ia)) % 2 ^ w=vs.getD i 0)/\
   ai_8 [.lst ks,.lst (vs.map .int),.int (w:Int),.int ia,.int ig]=.ok (Li,[.int (ks.length:Int),.int (w:Int),Bp (s:Int) ia (Be (ks.length:Int) ia) (2 ^ w) T]):=by
 have pos:(0:Int) < 2 ^ w:=Int.pow_pos (by decide);have h2:=h.h2;obtain⟨T,t1,t2,t3,t4⟩:=as_6 (s:=(s:Int)) ⟨h.k,h.nd,h.h1,h.h2,by omega,by omega,h.kd⟩ e2 (2 ^ w) pos vs hl (λi hi=>by
  rw [List.getD_eq_getElem?_getD,List.getElem?_eq_getElem hi];exact hb _ (List.getElem_mem hi))
 refine⟨T,t1,t2,t3, ?_⟩;unfold ai_8 Fw w_5;rw [dl_1 h w hw hl hb];have q4:Ah 7 [1,4,5] (Ap 3 Df (Aa (Ab 1) (Aa (Ab 4) (Aa (Ab 5) Ac)))) [.lt (.obj "Kept" ["how_many"] [.sh (.int (ks.length:Int))]),.sh (.lst ks),.sh (.lst (vs.map .int)),.sh (.int (w:Int)),.sh (.int ia),.sh (.int ig),.sh (.int (2 ^ w)),.no]=.nx [.lt (.obj "Kept" ["how_many"] [.sh (.int (ks.length:Int))]),.sh (.lst ks),.sh (.lst (vs.map .int)),.sh (.int (w:Int)),.sh (.int ia),.sh (.int ig),.sh (.int (2 ^ w)),.sh (.int (s:Int))]:=by
  have:Ap 3 Df (Aa (Ab 1) (Aa (Ab 4) (Aa (Ab 5) Ac))) (Bb [.lt (.obj "Kept" ["how_many"] [.sh (.int (ks.length:Int))]),.sh (.lst ks),.sh (.lst (vs.map .int)),.sh (.int (w:Int)),.sh (.int ia),.sh (.int ig),.sh (.int (2 ^ w)),.no])=.ok (.sh (.int (s:Int))):=e;unfold Ah;rw [this];rfl
 have q5:Cq 0 Lb "width" [3] (Ab 3) [.lt (.obj "Kept" ["how_many"] [.sh (.int (ks.length:Int))]),.sh (.lst ks),.sh (.lst (vs.map .int)),.sh (.int (w:Int)),.sh (.int ia),.sh (.int ig),.sh (.int (2 ^ w)),.sh (.int (s:Int))]=.nx [.lt (.obj "Kept" Lv [.sh (.int (ks.length:Int)),.sh (.int (w:Int))]),.sh (.lst ks),.sh (.lst (vs.map .int)),.sh (.int (w:Int)),.sh (.int ia),.sh (.int ig),.sh (.int (2 ^ w)),.sh (.int (s:Int))]:=by
  refine x_4 (w:=.sh (.int (w:Int))) (c:= "Kept") (ns:=["how_many"]) (ts:=[.sh (.int (ks.length:Int))]) rfl rfl ?_ rfl;decide +kernel
 have q6:Cq 0 La "own_table" [1,2,4,6,7] (Ap 5 h_1 (Aa (Ab 1) (Aa (Ab 7) (Aa (Ab 4) (Aa (Ab 6) (Aa (Ab 2) Ac)))))) [.lt (.obj "Kept" Lv [.sh (.int (ks.length:Int)),.sh (.int (w:Int))]),.sh (.lst ks),.sh (.lst (vs.map .int)),.sh (.int (w:Int)),.sh (.int ia),.sh (.int ig),.sh (.int (2 ^ w)),.sh (.int (s:Int))]=
   .nx [.lt (.obj "Kept" Li [.sh (.int (ks.length:Int)),.sh (.int (w:Int)),.sh (Bp (s:Int) ia (Be (ks.length:Int) ia) (2 ^ w) T)]),.sh (.lst ks),.sh (.lst (vs.map .int)),.sh (.int (w:Int)),.sh (.int ia),.sh (.int ig),.sh (.int (2 ^ w)),.sh (.int (s:Int))]:=by
  refine x_4 (w:=.sh (Bp (s:Int) ia (Be (ks.length:Int) ia) (2 ^ w) T)) (c:= "Kept") (ns:= Lv) (ts:=[.sh (.int (ks.length:Int)),.sh (.int (w:Int))]) rfl rfl (by decide +kernel) t4
 rw [Bq q4,Bq q5,q6];simp only [List.getElem?_cons_zero,if_true,unT,Option.map_some]
def bx_0{d:D}(h:isKey d)(w:Nat)(hw:w<=100):ap_2 [d,.int (w:Int)]=.ok (.sh (.int (Ge (q_4 d) 3 (2 ^ w)))):=by
 have pos:(0:Int) < 2 ^ w:=Int.pow_pos (by decide)
 simp_arith [ap_2,di_2,Am,cg_0 h,t_2 w (by omega),(cg_1 (q_4 d) 3 (2 ^ w) (by decide) (by decide) pos).1]
def mrkO(n width:Int)(t:D):D:=.obj "Marked" Li [.int n,.int width,t]
def bp_7(ks:List D)(w:Nat):List Int:=ks.map λd=>Ge (q_4 d) 3 (2 ^ w)
def cz_7{ks:List D}{ia ig:Int}(w:Nat)(e:Df [.lst ks,.int ia,.int ig]=.ex xNoTry):v_8 [.lst ks,.int (w:Int),.int ia,.int ig]=.ex xNoTry:=by
 unfold v_8 Fw;have t1:Ah 5 [1,3,4] (Ap 3 Df (Aa (Ab 1) (Aa (Ab 3) (Aa (Ab 4) Ac)))) (n_7 6 "Marked" [.lst ks,.int (w:Int),.int ia,.int ig])=.ex xNoTry (n_7 6 "Marked" [.lst ks,.int (w:Int),.int ia,.int ig]):=by
  have:Ap 3 Df (Aa (Ab 1) (Aa (Ab 3) (Aa (Ab 4) Ac))) (Bb (n_7 6 "Marked" [.lst ks,.int (w:Int),.int ia,.int ig]))=.ex xNoTry:=e;unfold Ah;rw [this]
 unfold u_3;unfold Af;rw [t1]
def ch_0{ks:List D}{ia ig:Int}(h:Ks ks 0 ia)(w:Nat)(hw:w<=100){s:Nat}(hs:s<=1000)(e:Df [.lst ks,.int ia,.int ig]=.ok (.sh (.int (s:Int))))(e2:g_3 [.lst ks,.int (s:Int),.int ia]=.ok (.sh (.bl true))):
  ∃T:List Int,(T.length:Int)=ia * Be (ks.length:Int) ia/\(∀t∈T,0<=t/\t < 2 ^ w)/\(∀(i:Nat) (d:D),ks[i]? =some d->Dx T (Fh d (s:Int) ia (Be (ks.length:Int) ia)) % 2 ^ w=Ge (q_4 d) 3 (2 ^ w))/\
   v_8 [.lst ks,.int (w:Int),.int ia,.int ig]=.ok (Li,[.int (ks.length:Int),.int (w:Int),Bp (s:Int) ia (Be (ks.length:Int) ia) (2 ^ w) T]):=by
 have pos:(0:Int) < 2 ^ w:=Int.pow_pos (by decide);have h2:=h.h2;obtain⟨T,t1,t2,t3,t4⟩:=as_6 (s:=(s:Int)) ⟨h.k,h.nd,h.h1,h.h2,by omega,by omega,h.kd⟩ e2 (2 ^ w) pos (bp_7 ks w) (by unfold bp_7;rw [List.length_map]) (λi hi=>by
  unfold bp_7 at hi⊢;rw [List.length_map] at hi;rw [List.getD_eq_getElem?_getD,List.getElem?_map,List.getElem?_eq_getElem hi];exact bp_4 _ _ _ pos)
 refine⟨T,t1,t2,λi d hd=> ?_, ?_⟩
 ·rw [t3 i d hd];unfold bp_7;rw [List.getD_eq_getElem?_getD,List.getElem?_map,hd];rfl
 ·have ec:=Go (m:=1) (fi:=Cr (Ab 1)) (fg:=gC 6) (p:=λ_=> .ok true) (f:=m_3) (δ:=[none,some (.lst ks),some (.int (w:Int)),some (.int ia),some (.int ig),some (.int (s:Int))]) (ds:=ks) (by simp_arith [Am]) (by omega)
   (m_9 (λd=> .int (Ge (q_4 d) 3 (2 ^ w))) ks λd hd=>⟨_,.sh (.int (Ge (q_4 d) 3 (2 ^ w))),rfl,by simp_arith [m_3,Am,bx_0 (h.k d hd) w hw],rfl⟩)
  have em:(ks.map λd=>D.int (Ge (q_4 d) 3 (2 ^ w)))=(bp_7 ks w).map .int:=by unfold bp_7;rw [List.map_map];rfl
  rw [em] at ec;have q1:Ah 5 [1,3,4] (Ap 3 Df (Aa (Ab 1) (Aa (Ab 3) (Aa (Ab 4) Ac)))) (n_7 6 "Marked" [.lst ks,.int (w:Int),.int ia,.int ig])=.nx [.lt (.obj "Marked" [] []),.sh (.lst ks),.sh (.int (w:Int)),.sh (.int ia),.sh (.int ig),.sh (.int (s:Int))]:=by
   have:Ap 3 Df (Aa (Ab 1) (Aa (Ab 3) (Aa (Ab 4) Ac))) (Bb (n_7 6 "Marked" [.lst ks,.int (w:Int),.int ia,.int ig]))=.ok (.sh (.int (s:Int))):=e;unfold Ah;rw [this];rfl
  have q2:Cq 0 La "how_many" [1] (Aj By (Aa (Ab 1) Ac)) [.lt (.obj "Marked" [] []),.sh (.lst ks),.sh (.int (w:Int)),.sh (.int ia),.sh (.int ig),.sh (.int (s:Int))]=.nx [.lt (.obj "Marked" ["how_many"] [.sh (.int (ks.length:Int))]),.sh (.lst ks),.sh (.int (w:Int)),.sh (.int ia),.sh (.int ig),.sh (.int (s:Int))]:=
   by refine x_4 (w:=.sh (.int (ks.length:Int))) (c:= "Marked") (ns:=[]) (ts:=[]) rfl rfl ?_ rfl;decide +kernel
  have q3:Cq 0 Lb "width" [2] (Ab 2) [.lt (.obj "Marked" ["how_many"] [.sh (.int (ks.length:Int))]),.sh (.lst ks),.sh (.int (w:Int)),.sh (.int ia),.sh (.int ig),.sh (.int (s:Int))]=.nx [.lt (.obj "Marked" Lv [.sh (.int (ks.length:Int)),.sh (.int (w:Int))]),.sh (.lst ks),.sh (.int (w:Int)),.sh (.int ia),.sh (.int ig),.sh (.int (s:Int))]:=
   by refine x_4 (w:=.sh (.int (w:Int))) (c:= "Marked") (ns:=["how_many"]) (ts:=[.sh (.int (ks.length:Int))]) rfl rfl ?_ rfl;decide +kernel
  have q4:Cq 0 La "own_table" [1,2,3,5] (Ap 5 h_1 (Aa (Ab 1) (Aa (Ab 5) (Aa (Ab 3) (Aa (Ap 1 n_1 (Aa (Ab 2) Ac)) (Aa (Bt 1 (Cr (Ab 1)) (gC 6) (λ_=> .ok true) m_3) Ac)))))) [.lt (.obj "Marked" Lv [.sh (.int (ks.length:Int)),.sh (.int (w:Int))]),.sh (.lst ks),.sh (.int (w:Int)),.sh (.int ia),.sh (.int ig),.sh (.int (s:Int))]=
    .nx [.lt (.obj "Marked" Li [.sh (.int (ks.length:Int)),.sh (.int (w:Int)),.sh (Bp (s:Int) ia (Be (ks.length:Int) ia) (2 ^ w) T)]),.sh (.lst ks),.sh (.int (w:Int)),.sh (.int ia),.sh (.int ig),.sh (.int (s:Int))]:=by
   refine x_4 (w:=.sh (Bp (s:Int) ia (Be (ks.length:Int) ia) (2 ^ w) T)) (c:= "Marked") (ns:= Lv) (ts:=[.sh (.int (ks.length:Int)),.sh (.int (w:Int))]) rfl rfl (by decide +kernel) ?_;have hv:Bb [.lt (.obj "Marked" Lv [.sh (.int (ks.length:Int)),.sh (.int (w:Int))]),.sh (.lst ks),.sh (.int (w:Int)),.sh (.int ia),.sh (.int ig),.sh (.int (s:Int))]= [none,some (.lst ks),some (.int (w:Int)),some (.int ia),some (.int ig),some (.int (s:Int))]:=rfl;rw [hv];simp only [Ap,Aa,Ac,Ab,List.getElem?_cons_succ,List.getElem?_cons_zero,R.bind_ok,W.d_sh,W.d_ow,List.length_cons,List.length_nil,Nat.reduceAdd,if_true,t_2 w (by omega:w<=1000),ec,t4]
  unfold v_8 Fw u_3;rw [Bq q1,Bq q2,Bq q3,q4];simp only [List.getElem?_cons_zero,if_true,unT,Option.map_some]
def paO(n:Int)(t:D)(u:Str):D:=.obj "PeeledAgain" Lo [.int n,t,.str u]
def oaO(n:Int)(t:D):D:=.obj "OrderedAgain" Ll [.int n,t]
abbrev Ly:List Str:=["how_many","own_table","width"]
def kaO(n w:Int)(t:D):D:=.obj "KeptAgain" Ly [.int n,t,.int w]
def maO(n w:Int)(t:D):D:=.obj "MarkedAgain" Ly [.int n,t,.int w]
def ee_2(a b c:D):r_3 [a,b,c]=.ok (Lo,[a,b,c]):=by rfl'
def ee_3(a b:D):p_7 [a,b]=.ok (Ll,[a,b]):=by rfl'
def ee_4(a b c:D):w_1 [a,b,c]=.ok (Ly,[a,b,c]):=by rfl'
def ee_5(a b c:D):r_4 [a,b,c]=.ok (Ly,[a,b,c]):=by rfl'
abbrev C8:List Str:= La
abbrev tbT:List (Str×(List D->R W)):= L92
abbrev tbS:List (Str×(List D->R W)):= L91
abbrev tbM:List (Str×(List D->R W)):= L90
abbrev tbP:List (Str×(List D->R W)):= L98
abbrev tbN:List (Str×(List D->R W)):= J12
abbrev tbR:List (Str×(List D->R W)):= J10
abbrev tbRs:List (Str×(List D->R W)):= J13
abbrev tbU:List (Str×(List D->R W)):= J14
abbrev tbQ:List (Str×(List D->R W)):= J15
abbrev i0:List (Str×Bool):= L93
abbrev i1:List (Str×Bool):= L94
abbrev i2:List (Str×Bool):= L95
abbrev i3:List (Str×Bool):= L96
structure HH(M:D)(n s ia ib m:Int)(T:List Int):Prop where
 own:∀(fo:FE) (δ:DE),fo δ=.ok (.sh M)->Br C8 "own_table" fo δ=.ok (.sh (Bp s ia ib m T))
 num:∀(fo:FE) (δ:DE),fo δ=.ok (.sh M)->Br C8 "how_many" fo δ=.ok (.sh (.int n))
 tab:∀(fo:FE) (δ:DE),fo δ=.ok (.sh M)->Bf "table" 0 tbT fo Ac δ=.ok (.ow (.lst (T.map .int)))
 salt:∀(fo:FE) (δ:DE),fo δ=.ok (.sh M)->Bf "salt" 0 tbS fo Ac δ=.ok (.sh (.int s))
 many:∀(fo:FE) (δ:DE),fo δ=.ok (.sh M)->Bf "many" 0 tbM fo Ac δ=.ok (.sh (.int n))
 plc:∀(fo:FE) (fa:FA) (δ:DE) (d:D) (r:W),fo δ=.ok (.sh M)->fa δ=.ok [d]->f_3 [d,.int s,.int ia,.int ib]=.ok r->Bf "places" 1 tbP fo fa δ=.ok r
section
variable{n s ia ib m w z y:Int}{T:List Int}{u:Str}{M d:D}
def Dd{c f:Str}{ns:List Str}{vs:List D}{cs:List Str}{r:D}{M:D}(hM:M=.obj c ns vs)(h1:cs.contains c=true)(h2:(ns.zip vs).lookup f=some r)(fo:FE)(δ:DE)(h:fo δ=.ok (.sh M)):Br cs f fo δ=.ok (.sh r):=by
 subst hM;simp only [Br,h,R.bind_ok,W.d_sh,h1,h2,if_true]
def Dl{nm c:Str}{k:Nat}{ns:List Str}{vs:List D}{tb:List (Str×(List D->R W))}{F:List D->R W}{M:D}(hM:M=.obj c ns vs)(h1:ns.contains nm=false)(h2:tb.lookup c=some F)(fo:FE)(fa:FA)(δ:DE)(ds:List D)(h:fo δ=.ok (.sh M))(ha:fa δ=.ok ds)(hk:ds.length=k):Bf nm k tb fo fa δ=F (M::ds):=by
 subst hM;simp only [Bf,h,R.bind_ok,W.d_sh,h1,Bool.false_eq_true,if_false,h2,ha,hk,if_true]
abbrev Own(M:D)(s ia ib m:Int)(T:List Int):Prop:=∀(fo:FE) (δ:DE),fo δ=.ok (.sh M)->Br C8 "own_table" fo δ=.ok (.sh (Bp s ia ib m T))
def ae_7{r:W}(f:Own M s ia ib m T)(h:f_3 [d,.int s,.int ia,.int ib]=.ok r):b_5 [M,d]=.ok r:=by
 have e:=y_7 h (Br C8 "own_table" (Ab 0)) [some M,some d] (f (Ab 0) _ rfl) (Aa (Ab 1) Ac) rfl
 simp_arith [b_5,af_6,Am,e]
def ay_7{r:W}(f:Own M s ia ib m T)(h:f_3 [d,.int s,.int ia,.int ib]=.ok r):d_1 [M,d]=.ok r:=by
 have e:=y_7 h (Br C8 "own_table" (Ab 0)) [some M,some d] (f (Ab 0) _ rfl) (Aa (Ab 1) Ac) rfl
 simp_arith [d_1,ac_3,Am,e]
def ch_1{r:W}(f:Own M s ia ib m T)(h:f_3 [d,.int s,.int ia,.int ib]=.ok r):f_0 [M,d]=.ok r:=by
 have e:=y_7 h (Br C8 "own_table" (Ab 0)) [some M,some d] (f (Ab 0) _ rfl) (Aa (Ab 1) Ac) rfl
 simp_arith [f_0,am_8,Am,e]
def bg_7{r:W}(f:Own M s ia ib m T)(h:f_3 [d,.int s,.int ia,.int ib]=.ok r):d_5 [M,d]=.ok r:=by
 have e:=y_7 h (Br C8 "own_table" (Ab 0)) [some M,some d] (f (Ab 0) _ rfl) (Aa (Ab 1) Ac) rfl
 simp_arith [d_5,ag_0,Am,e]
def cz_8:HH (pelO n (Bp s ia ib m T) u) n s ia ib m T:=
 have o:Own _ s ia ib m T:=Dd rfl (by rfl') (by rfl')
 ⟨o,Dd rfl (by rfl') (by rfl'),λfo δ h=>by unfold Bf;rw [h];rfl',λfo δ h=>by unfold Bf;rw [h];rfl',λfo δ h=>by unfold Bf;rw [h];rfl',λfo fa δ d r h ha e=>(Dl rfl (by rfl') (by rfl') fo fa δ [d] h ha rfl).trans (ae_7 o e)⟩
def co_5:HH (ordO n (Bp s ia ib m T)) n s ia ib m T:=
 have o:Own _ s ia ib m T:=Dd rfl (by rfl') (by rfl')
 ⟨o,Dd rfl (by rfl') (by rfl'),λfo δ h=>by unfold Bf;rw [h];rfl',λfo δ h=>by unfold Bf;rw [h];rfl',λfo δ h=>by unfold Bf;rw [h];rfl',λfo fa δ d r h ha e=>(Dl rfl (by rfl') (by rfl') fo fa δ [d] h ha rfl).trans (ay_7 o e)⟩
def dv_3:HH (kptO n w (Bp s ia ib m T)) n s ia ib m T:=
 have o:Own _ s ia ib m T:=Dd rfl (by rfl') (by rfl')
 ⟨o,Dd rfl (by rfl') (by rfl'),λfo δ h=>by unfold Bf;rw [h];rfl',λfo δ h=>by unfold Bf;rw [h];rfl',λfo δ h=>by unfold Bf;rw [h];rfl',λfo fa δ d r h ha e=>(Dl rfl (by rfl') (by rfl') fo fa δ [d] h ha rfl).trans (ch_1 o e)⟩
def cz_9:HH (mrkO n w (Bp s ia ib m T)) n s ia ib m T:=
 have o:Own _ s ia ib m T:=Dd rfl (by rfl') (by rfl')
 ⟨o,Dd rfl (by rfl') (by rfl'),λfo δ h=>by unfold Bf;rw [h];rfl',λfo δ h=>by unfold Bf;rw [h];rfl',λfo δ h=>by unfold Bf;rw [h];rfl',λfo fa δ d r h ha e=>(Dl rfl (by rfl') (by rfl') fo fa δ [d] h ha rfl).trans (bg_7 o e)⟩
def bg_8:HH (paO n (Bp s ia ib m T) u) n s ia ib m T:=
 have o:Own _ s ia ib m T:=Dd rfl (by rfl') (by rfl')
 ⟨o,Dd rfl (by rfl') (by rfl'),λfo δ h=>by unfold Bf;rw [h];rfl',λfo δ h=>by unfold Bf;rw [h];rfl',λfo δ h=>by unfold Bf;rw [h];rfl',λfo fa δ d r h ha e=>(Dl rfl (by rfl') (by rfl') fo fa δ [d] h ha rfl).trans (ae_7 o e)⟩
def ba_3:HH (oaO n (Bp s ia ib m T)) n s ia ib m T:=
 have o:Own _ s ia ib m T:=Dd rfl (by rfl') (by rfl')
 ⟨o,Dd rfl (by rfl') (by rfl'),λfo δ h=>by unfold Bf;rw [h];rfl',λfo δ h=>by unfold Bf;rw [h];rfl',λfo δ h=>by unfold Bf;rw [h];rfl',λfo fa δ d r h ha e=>(Dl rfl (by rfl') (by rfl') fo fa δ [d] h ha rfl).trans (ay_7 o e)⟩
def bx_1:HH (kaO n w (Bp s ia ib m T)) n s ia ib m T:=
 have o:Own _ s ia ib m T:=Dd rfl (by rfl') (by rfl')
 ⟨o,Dd rfl (by rfl') (by rfl'),λfo δ h=>by unfold Bf;rw [h];rfl',λfo δ h=>by unfold Bf;rw [h];rfl',λfo δ h=>by unfold Bf;rw [h];rfl',λfo fa δ d r h ha e=>(Dl rfl (by rfl') (by rfl') fo fa δ [d] h ha rfl).trans (ch_1 o e)⟩
def bg_9:HH (maO n w (Bp s ia ib m T)) n s ia ib m T:=
 have o:Own _ s ia ib m T:=Dd rfl (by rfl') (by rfl')
 ⟨o,Dd rfl (by rfl') (by rfl'),λfo δ h=>by unfold Bf;rw [h];rfl',λfo δ h=>by unfold Bf;rw [h];rfl',λfo δ h=>by unfold Bf;rw [h];rfl',λfo fa δ d r h ha e=>(Dl rfl (by rfl') (by rfl') fo fa δ [d] h ha rfl).trans (bg_7 o e)⟩
def dl_2(fo:FE)(δ:DE)(h:fo δ=.ok (.sh (Bp s ia ib m T))):Br ["Table"] "kind" fo δ=.ok (.sh (.int ia)):=Dd rfl (by rfl') (by rfl') fo δ h
def bp_8{Z:D}(h:HH M n s ia ib m T)(c0:Dr i0 (Ab 0) [some M]=.ok (.sh (.bl true)))(d2:Bf "used" 0 tbU (Ab 0) Ac [some M]=.ok (.sh (.str u)))(hw:n_6 [.int ia]=.ok (.sh (.int w)))(ht:l_0 [.str "peeled",M,.int w,.str u]=.ok (.sh Z)):e_4 [M]=.ok (.sh Z):=by
 have d1:=dl_2 (Br C8 "own_table" (Ab 0)) [some M] (h.own (Ab 0) _ rfl)
 simp_arith [e_4,u_4,Am,c0,d1,d2,hw,ht]
def bh_0{Z:D}(h:HH M n s ia ib m T)(c0:Dr i0 (Ab 0) [some M]=.ok (.sh (.bl false)))(c1:Dr i1 (Ab 0) [some M]=.ok (.sh (.bl true)))(hw:n_6 [.int n]=.ok (.sh (.int w)))(ht:l_0 [.str "ordered",M,.int w,.str ""]=.ok (.sh Z)):e_4 [M]=.ok (.sh Z):=by
 have d1:=h.many (Ab 0) [some M] rfl
 simp_arith [e_4,u_4,Am,c0,c1,d1,hw,ht]
abbrev Wd(M:D)(w:Int)(r:List (Option D)):Prop:=Br Lb "width" (Ab 0) (some M::r)=.ok (.sh (.int w))
def ct_3{Z:D}(c0:Dr i0 (Ab 0) [some M]=.ok (.sh (.bl false)))(c1:Dr i1 (Ab 0) [some M]=.ok (.sh (.bl false)))(c2:Dr i2 (Ab 0) [some M]=.ok (.sh (.bl true)))(d1:Wd M w [])(ht:l_0 [.str "kept",M,.int w,.str ""]=.ok (.sh Z)):e_4 [M]=.ok (.sh Z):=by
 simp_arith [e_4,u_4,Am,c0,c1,c2,d1,ht]
def bp_9{Z:D}(c0:Dr i0 (Ab 0) [some M]=.ok (.sh (.bl false)))(c1:Dr i1 (Ab 0) [some M]=.ok (.sh (.bl false)))(c2:Dr i2 (Ab 0) [some M]=.ok (.sh (.bl false)))(c3:Dr i3 (Ab 0) [some M]=.ok (.sh (.bl true)))(d1:Wd M w [])(ht:l_0 [.str "marked",M,.int w,.str ""]=.ok (.sh Z)):e_4 [M]=.ok (.sh Z):=by
 simp_arith [e_4,u_4,Am,c0,c1,c2,c3,d1,ht]
end
def Eg(nm:Str)(ia s n:Int)(w:Nat)(T:List Int)(u:Str):D:=.tup [.str nm,.int ia,.int s,.int n,.int (w:Int),.str (Bd ((T.map λn=>wr w n []).flatten)),.str u]
def z_9{M:D}{n s ia ib m:Int}{T:List Int}(h:HH M n s ia ib m T)(nm u:Str)(w:Nat)(h1:w<=1000)(h2:T.length<=10000)(hb:∀t∈T,0<=t/\t < 2 ^ w):l_0 [.str nm,M,.int (w:Int),.str u]=.ok (.sh (Eg nm ia s n w T u)):=by
 have e1:=h.tab (Ab 1) [some (.str nm),some M,some (.int (w:Int)),some (.str u),none] rfl;have e2:=dl_2 (Br C8 "own_table" (Ab 1)) [some (.str nm),some M,some (.int (w:Int)),some (.str u),some (.str (Bd ((T.map λn=>wr w n []).flatten)))] (h.own (Ab 1) _ rfl);have e3:=h.salt (Ab 1) [some (.str nm),some M,some (.int (w:Int)),some (.str u),some (.str (Bd ((T.map λn=>wr w n []).flatten)))] rfl;have e4:=h.many (Ab 1) [some (.str nm),some M,some (.int (w:Int)),some (.str u),some (.str (Bd ((T.map λn=>wr w n []).flatten)))] rfl;have ew:=co_1 T w h1 h2 hb;unfold Eg;generalize Bd ((T.map λn=>wr w n []).flatten)=x at *
 simp_arith [l_0,bo_5,Am,e1,ew,e2,e3,e4]
def bx_2{l:List Nat}(h:∀c∈l,bit c):(Bd l).cps.all (· < 0x110000)=true:=by
 rw [<-Array.all_toList,l_5];exact List.all_eq_true.mpr λc hc=>by rcases h c hc with rfl|rfl <;> decide
def bq_0(w:Nat)(zs:List Int):∀c∈(zs.map λn=>wr w n []).flatten,bit c:=λc hc=>by
 obtain⟨l,hl,hc⟩:=List.mem_flatten.mp hc;obtain⟨n,_,rfl⟩:=List.mem_map.mp hl;exact di_8 w n [] (λc h=>absurd h (by simp)) c hc
def bx_3(nm:Str)(ia s n:Int)(w:Nat)(T:List Int)(u:Str)(hn:nm.cps.all (· < 0x110000)=true)(hu:u.cps.all (· < 0x110000)=true):Fb (Eg nm ia s n w T u) (Eg nm ia s n w T u)=.ok (.sh (.bl false)):=by
 have hx:=bx_2 (bq_0 w T);unfold Eg;generalize Bd ((T.map λn=>wr w n []).flatten)=x at *
 refine bg_0 1 ?_;show(List.all _ (okD 0))=true;simp only [List.all_cons,List.all_nil,okD,Bool.and_true,hn,hu,hx]
theorem ch_2(w:Nat):∀(zs:List Int) (i:Nat) (z:Int),zs[i]? =some z->(((zs.map λn=>wr w n []).flatten).drop (w * i)).take w=wr w z []
 | [],i,z,h=>by simp at h
 |y::zs,0,z,h=>by
  have:y=z:=by simpa using h
  subst this;rw [Nat.mul_zero,List.drop_zero,List.map_cons,List.flatten_cons,List.take_append_of_le_length (by rw [ap_5];simp),List.take_of_length_le (by rw [ap_5];simp)]
 |y::zs,i + 1,z,h=>by
  rw [List.map_cons,List.flatten_cons,Nat.mul_succ,List.drop_append,List.drop_of_length_le (by rw [ap_5];simp),List.nil_append,ap_5];have e:w * i + w - (w + ([]:List Nat).length)=w * i:=by simp
  rw [e];exact ch_2 w zs i z (by simpa using h)
def ch_3(w:Nat)(zs:List Int)(hz:∀z∈zs,0<=z/\z < 2 ^ w):Gk ((zs.map λn=>wr w n []).flatten) w zs.length=zs:=by
 apply List.ext_getElem?;intro i;unfold Gk;rw [List.getElem?_map]
 by_cases hi:i < zs.length
 ·obtain⟨z,e1⟩:∃z,zs[i]? =some z:=⟨zs[i],List.getElem?_eq_getElem hi⟩;rw [List.getElem?_range hi,e1];show some (rd (((zs.map λn=>wr w n []).flatten.drop (w * i)).take w) 0)=some z;obtain⟨b1,b2⟩:=hz z (List.mem_of_getElem? e1);rw [ch_2 w zs i z e1,ed_3 w z b1 b2]
 ·rw [List.getElem?_eq_none (by rw [List.length_range];omega),List.getElem?_eq_none (by omega)];rfl
def ae_8(T:List Int)(w:Nat)(h1:1<=w)(h2:w<=100)(h3:T.length<=900)(hb:∀t∈T,0<=t/\t < 2 ^ w)(z:Int):o_7 [.str (Bd ((T.map λn=>wr w n []).flatten)),.int (w:Int),.int z]=.ok (.ow (.lst (T.map .int))):=by
 have hl:(Bd ((T.map λn=>wr w n []).flatten)).length=w * T.length:=by rw [u_5,cg_5]
 have hm:=Nat.mul_le_mul h2 h3;have e:=bw_8 (Bd ((T.map λn=>wr w n []).flatten)) w T.length h1 hl (by omega) (by omega) (by rw [l_5];exact bq_0 w T);rw [l_5,ch_3 w T hb] at e;generalize Bd ((T.map λn=>wr w n []).flatten)=x at *
 have g:gtD (.int (w:Int)) (.int 0)=.ok (.sh (.bl true)):=by rw [cc_7];simp;omega
 simp_arith [o_7,ag_1,Am,g,e]
def as_7{nm x u:Str}{ia s n w:Int}{r:W}(ho:p_8 [.str nm,.int ia,.int s,.int n,.int w,.str x,.str u]=.ok r):h_6 [.tup [.str nm,.int ia,.int s,.int n,.int w,.str x,.str u]]=.ok r:=by
 have hi:∀(i:Nat) (d:D),([D.str nm,.int ia,.int s,.int n,.int w,.str x,.str u])[i]? =some d->Cf (.tup [.str nm,.int ia,.int s,.int n,.int w,.str x,.str u]) (.int (i:Int))=.ok (.sh d):=λi d h=>by
  unfold Cf;simp only [as_0 h]
 have i0:=hi 0 _ rfl;have i1:=hi 1 _ rfl;have i2:=hi 2 _ rfl;have i3:=hi 3 _ rfl;have i4:=hi 4 _ rfl;have i5:=hi 5 _ rfl;have i6:=hi 6 _ rfl;generalize D.tup [D.str nm,.int ia,.int s,.int n,.int w,.str x,.str u]=Z at *
 simp only [show((0:Nat):Int)=0 from rfl,show((1:Nat):Int)=1 from rfl,show((2:Nat):Int)=2 from rfl,show((3:Nat):Int)=3 from rfl,show((4:Nat):Int)=4 from rfl,show((5:Nat):Int)=5 from rfl,show((6:Nat):Int)=6 from rfl] at i0 i1 i2 i3 i4 i5 i6
 simp_arith [h_6,ar_9,Am,i0,i1,i2,i3,i4,i5,i6,ho]
section
variable{N w:Nat}{s ia:Int}{T:List Int}{u:Str}
def ee_6(hN:N<=200)(hk:ia=2\/ia=3)(h1:1<=w)(h2:w<=100)(h3:T.length<=900)(hb:∀t∈T,0<=t/\t < 2 ^ w):h_6 [Eg "peeled" ia s (N:Int) w T u]=.ok (.sh (paO (N:Int) (Bp s ia (Be (N:Int) ia) ia T) u)):=by
 obtain⟨p1,_,p3,p4⟩:=s_0 (N:Int) ia (by omega) (by omega) hk;have m1:=Ep (i:=ia) (j:=Be (N:Int) ia) (Gm (by omega) (by omega));have e:=ae_8 T w h1 h2 h3 hb (ia * Be (N:Int) ia);have e2:=t_2 w (by omega);unfold Eg paO Bp;generalize Bd ((T.map λn=>wr w n []).flatten)=x at *
 have q0:Cv (.str "peeled") (.str "peeled")=.ok (.sh (.bl true)):=by rfl'
 refine as_7 ?_
 simp_arith [p_8,y_3,Am,p1,m1,e,e2,q0,Es,y_6,ee_2]
def ee_7(hN:N<=200)(hk:ia=2\/ia=3)(h1:1<=w)(h2:w<=100)(h3:T.length<=900)(hb:∀t∈T,0<=t/\t < 2 ^ w):h_6 [Eg "ordered" ia s (N:Int) w T ""]=.ok (.sh (oaO (N:Int) (Bp s ia (Be (N:Int) ia) (N:Int) T))):=by
 obtain⟨p1,_,p3,p4⟩:=s_0 (N:Int) ia (by omega) (by omega) hk;have m1:=Ep (i:=ia) (j:=Be (N:Int) ia) (Gm (by omega) (by omega));have e:=ae_8 T w h1 h2 h3 hb (ia * Be (N:Int) ia);have e2:=t_2 w (by omega);unfold Eg oaO Bp;generalize Bd ((T.map λn=>wr w n []).flatten)=x at *
 have q0:Cv (.str "ordered") (.str "peeled")=.ok (.sh (.bl false)):=by rfl'
 have q1:Cv (.str "ordered") (.str "ordered")=.ok (.sh (.bl true)):=by rfl'
 refine as_7 ?_
 simp_arith [p_8,y_3,Am,p1,m1,e,e2,q0,q1,Es,y_6,ee_3]
def ee_8(hN:N<=200)(hk:ia=2\/ia=3)(h1:1<=w)(h2:w<=100)(h3:T.length<=900)(hb:∀t∈T,0<=t/\t < 2 ^ w):h_6 [Eg "kept" ia s (N:Int) w T ""]=.ok (.sh (kaO (N:Int) (w:Int) (Bp s ia (Be (N:Int) ia) (2 ^ w) T))):=by
 obtain⟨p1,_,p3,p4⟩:=s_0 (N:Int) ia (by omega) (by omega) hk;have m1:=Ep (i:=ia) (j:=Be (N:Int) ia) (Gm (by omega) (by omega));have e:=ae_8 T w h1 h2 h3 hb (ia * Be (N:Int) ia);have e2:=t_2 w (by omega);unfold Eg kaO Bp;generalize Bd ((T.map λn=>wr w n []).flatten)=x at *
 have q0:Cv (.str "kept") (.str "peeled")=.ok (.sh (.bl false)):=by rfl'
 have q1:Cv (.str "kept") (.str "ordered")=.ok (.sh (.bl false)):=by rfl'
 have q2:Cv (.str "kept") (.str "kept")=.ok (.sh (.bl true)):=by rfl'
 refine as_7 ?_
 simp_arith [p_8,y_3,Am,p1,m1,e,e2,q0,q1,q2,Es,y_6,ee_4]
def ee_9(hN:N<=200)(hk:ia=2\/ia=3)(h1:1<=w)(h2:w<=100)(h3:T.length<=900)(hb:∀t∈T,0<=t/\t < 2 ^ w):h_6 [Eg "marked" ia s (N:Int) w T ""]=.ok (.sh (maO (N:Int) (w:Int) (Bp s ia (Be (N:Int) ia) (2 ^ w) T))):=by
 obtain⟨p1,_,p3,p4⟩:=s_0 (N:Int) ia (by omega) (by omega) hk;have m1:=Ep (i:=ia) (j:=Be (N:Int) ia) (Gm (by omega) (by omega));have e:=ae_8 T w h1 h2 h3 hb (ia * Be (N:Int) ia);have e2:=t_2 w (by omega);unfold Eg maO Bp;generalize Bd ((T.map λn=>wr w n []).flatten)=x at *
 have q0:Cv (.str "marked") (.str "peeled")=.ok (.sh (.bl false)):=by rfl'
 have q1:Cv (.str "marked") (.str "ordered")=.ok (.sh (.bl false)):=by rfl'
 have q2:Cv (.str "marked") (.str "kept")=.ok (.sh (.bl false)):=by rfl'
 refine as_7 ?_
 simp_arith [p_8,y_3,Am,p1,m1,e,e2,q0,q1,q2,Es,y_6,ee_5]
end
def dl_3(x:Str)(p:Nat)(h:p<=x.length):(Txt.slice x none (some (p:Int))).cps.toList=x.cps.toList.take p:=by
 rw [be_8,ed_1 x.cps.toList p (by rw [<-x_1];exact h)]
def dl_4{U:List Nat}(hU:U.length<=100000){p:Nat}(hp:p<=U.length):o_9 [.str (Bd U),.int (p:Int)]=.ok (.sh (.int ((U.take p).count 49:Nat))):=by
 have e:max (p:Int) 0=(p:Int):=by omega
 have hl:(Bd U).length<=16777216:=by rw [u_5];omega
 have c:Txt.count (Txt.slice (Bd U) none (some (p:Int))) "1" =((U.take p).count 49:Nat):=by
  have c:=cx_8 (Txt.slice (Bd U) none (some (p:Int))) 49;rw [dl_3 _ p (by rw [u_5];exact hp),l_5] at c;exact c
 simp_arith [o_9,am_5,Am,bt_4,e,be_1,hl,be_2,beq_self_eq_true,c]
def ek_0{ps:List Nat}{j p:Nat}(h:ps[j]? =some p):Cf (eT ps) (.int (j:Int))=.ok (.sh (.int (p:Int))):=by
 exact bb_4 (as_0 (show(zi ps)[j]? =some (.int (p:Int)) by unfold zi;rw [List.getElem?_map,h];rfl))
section
variable{n s ia ib m w z y:Int}{T:List Int}{u:Str}{M d:D}
def bc_1(h:HH M n s ia ib m T)(ht:c_9 [Bp s ia ib m T,d]=.ok (.sh (.int z)))(r:List (Option D)):Bf "total" 1 [("Table",c_9)] (Br C8 "own_table" (Ab 0)) (Aa (Ab 1) Ac) (some M::some d::r)=.ok (.sh (.int z)):=
 (Dl (tb:=[("Table",c_9)]) (M:=Bp s ia ib m T) rfl (by rfl') (by rfl') (Br C8 "own_table" (Ab 0)) (Aa (Ab 1) Ac) (some M::some d::r) [d] (h.own (Ab 0) _ rfl) rfl rfl).trans ht
def ay_8(h:HH M n s ia ib m T)(ht:c_9 [Bp s ia ib m T,d]=.ok (.sh (.int z))):c_1 [M,d]=.ok (.sh (.int z)):=by
 have e:=bc_1 h ht []
 simp_arith [c_1,w_7,Am,e]
def ch_4(h:HH M n s ia ib m T)(ht:c_9 [Bp s ia ib m T,d]=.ok (.sh (.int z))):d_8 [M,d]=.ok (.sh (.int z)):=by
 have e:=bc_1 h ht []
 simp_arith [d_8,ar_8,Am,e]
def bh_1(h:HH M n s ia ib m T)(e2:Wd M w [some d])(ht:c_9 [Bp s ia ib m T,d]=.ok (.sh (.int z)))(hm:ap_2 [d,.int w]=.ok (.sh (.int y))):e_5 [M,d]=.ok (.sh (.bl (decide (z=y)))):=by
 have e:=bc_1 h ht []
 simp_arith [e_5,aj_1,Am,e,e2,hm,Ek]
def bh_2{ps:List Nat}{j p:Nat}(h:HH M n s ia ib m T)(e0:Bf "places" 1 tbQ (Ab 0) (Aa (Ab 1) Ac) [some M,some d,none]=.ok (.sh (eT ps)))(e2:∀x:Option D,Br Lj "used_row" (Ab 0) [some M,some d,x]=.ok (.sh (.str u)))(ht:c_9 [Bp s ia ib m T,d]=.ok (.sh (.int (j:Int))))(hj:ps[j]? =some p)(ho:o_9 [.str u,.int (p:Int)]=.ok (.sh (.int z))):c_5 [M,d]=.ok (.sh (.int z)):=by
 have e:=bc_1 h ht [none];have hx:Cf (eT ps) (.int (j:Int))=.ok (.sh (.int (p:Int))):=ek_0 hj
 simp_arith [c_5,y_2,Am,e,e0,hx,e2,ho]
def as_8(h:HH M n s ia ib m T)(e0:Bf "number_of" 1 tbN (Ab 0) (Aa (Ab 1) Ac) [some M,some d]=.ok (.sh (.int z))):a_8 [M,d]=.ok (.sh (.int (min z (n - 1)))):=by
 have e1:=h.num (Ab 0) [some M,some d] rfl
 simp_arith [a_8,am_7,Am,e0,e1,be_9,cm_0]
def al_4{f:D->Int}{ls:List D}(hk:∀k∈ls,isKey k)(hl:ls.length<=16777216)(hm:∀d,isKey d->Bf "room" 1 tbR (Ab 0) (Aa (Ab 2) Ac) [some M,some (.lst ls),some d]=.ok (.sh (.int (f d)))):b_4 [M,.lst ls]=.ok (.ow (.lst (ls.map λd=> .int (f d)))):=by
 have q1:Cj [1] (Ap 1 i_7 (Aa (Ab 1) Ac)) (Az 2 [M,.lst ls])=.nx [.sh M,.sh (.lst ls)]:=by
  simp_arith [Am,cs_9 hk]
 have ec:=Go (m:=1) (fi:=Cr (Ab 1)) (fg:=gC 2) (p:=λ_=> .ok true) (f:=ac_2) (δ:=[some M,some (.lst ls)]) (ds:=ls) (by simp_arith [Am]) hl
  (m_9 (λd=> .int (f d)) ls λd hd=>⟨[some M,some (.lst ls),some d],.sh (.int (f d)),rfl,hm d (hk d hd),rfl⟩)
 unfold b_4 Ag aj_0;rw [Bq q1];have hv:As [.sh M,.sh (.lst ls)]= [some M,some (.lst ls)]:=rfl;unfold An;rw [hv,ec]
end
section
variable{M:D}{ls:List D}{ii:Int}
def as_9{f:D->Int}(hf:ii < 2)(hl:ls.length<=1000)(hr:∀d∈ls,∀(δ:DE),Ab 0 δ=.ok (.sh M)->(Aa (Ab 3) Ac) δ=.ok [d]->Bf "room" 1 tbR (Ab 0) (Aa (Ab 3) Ac) δ=.ok (.sh (.int (f d))))
  (hs:∀(fa:FA) (δ:DE),Ab 0 δ=.ok (.sh M)->fa δ=.ok [.lst ls]->Bf "rooms" 1 tbRs (Ab 0) fa δ=.ok (.ow (.lst (ls.map λd=> .int (f d))))):h_5 [M,.int ii,.lst ls]=.ok (.ow (.lst ((ls.map λd=>D.int (f d)) ++ ls.map λd=> .int (f d)))):=by
 have ec:=Go (m:=1) (fi:=Cr (Ab 2)) (fg:=gC 3) (p:=λ_=> .ok true) (f:=af_7) (δ:=[some M,some (.int ii),some (.lst ls)]) (ds:=ls) (by simp_arith [Am]) (by omega)
  (m_9 (λd=> .int (f d)) ls λd hd=>⟨[some M,some (.int ii),some (.lst ls),some d],.sh (.int (f d)),rfl,hr d hd _ rfl rfl,rfl⟩)
 have e2:=hs (Aa (Aj bs_6 (Aa (Ab 2) Ac)) Ac) [some M,some (.int ii),some (.lst ls)] rfl rfl;have hc:Bu (.lst (ls.map λd=>D.int (f d))) (.lst (ls.map λd=>D.int (f d)))=.ok (.ow (.lst ((ls.map λd=>D.int (f d)) ++ ls.map λd=> .int (f d)))):=cs_0 (by rw [List.length_map];omega);have hlt:ltD (.int ii) (.int 2)=.ok (.sh (.bl true)):=by rw [Et];simp [hf]
 generalize (ls.map λd=>D.int (f d))=V at *
 simp_arith [h_5,v_4,Am,hlt,ec,e2,hc]
def bq_1{f:D->Int}(hl:ls.length<=1000)(hr:∀d∈ls,∀(δ:DE),Ab 0 δ=.ok (.sh M)->(Aa (Ab 3) Ac) δ=.ok [d]->Bf "value" 1 J17 (Ab 0) (Aa (Ab 3) Ac) δ=.ok (.sh (.int (f d)))):h_5 [M,.int 2,.lst ls]=.ok (.ow (.lst (ls.map λd=> .int (f d)))):=by
 have ec:=Go (m:=1) (fi:=Cr (Ab 2)) (fg:=gC 3) (p:=λ_=> .ok true) (f:=af_8) (δ:=[some M,some (.int 2),some (.lst ls)]) (ds:=ls) (by simp_arith [Am]) (by omega)
  (m_9 (λd=> .int (f d)) ls λd hd=>⟨[some M,some (.int 2),some (.lst ls),some d],.sh (.int (f d)),rfl,hr d hd _ rfl rfl,rfl⟩)
 have hlt:ltD (.int 2) (.int 2)=.ok (.sh (.bl false)):=by rw [Et];rfl
 simp_arith [h_5,v_4,Am,hlt,Ek,ec]
def bq_2{f:D->Bool}(hl:ls.length<=1000)(hr:∀d∈ls,∀(δ:DE),Ab 0 δ=.ok (.sh M)->(Aa (Ab 3) Ac) δ=.ok [d]->Bf "knows" 1 J16 (Ab 0) (Aa (Ab 3) Ac) δ=.ok (.sh (.bl (f d)))):h_5 [M,.int 3,.lst ls]=.ok (.ow (.lst (ls.map λd=> .bl (f d)))):=by
 have ec:=Go (m:=1) (fi:=Cr (Ab 2)) (fg:=gC 3) (p:=λ_=> .ok true) (f:=af_9) (δ:=[some M,some (.int 3),some (.lst ls)]) (ds:=ls) (by simp_arith [Am]) (by omega)
  (m_9 (λd=> .bl (f d)) ls λd hd=>⟨[some M,some (.int 3),some (.lst ls),some d],.sh (.bl (f d)),rfl,hr d hd _ rfl rfl,rfl⟩)
 have hlt:ltD (.int 3) (.int 2)=.ok (.sh (.bl false)):=by rw [Et];rfl
 have z:¬((3:Int)=2):=by decide
 simp_arith [h_5,v_4,Am,hlt,Ek,z,ec]
def aj_7{n s ia ib m:Int}{T:List Int}(h:HH M n s ia ib m T)(hl:ls.length<=1000){pd:D->D}(hp:∀d∈ls,f_3 [d,.int s,.int ia,.int ib]=.ok (.sh (pd d))){X us:List D}(ha:h_5 [M,.int ii,.lst ls]=.ok (.ow (.lst X)))
  (hu:(ii=0/\∃u:Str,us= [.str u]/\∀δ:DE,Ab 0 δ=.ok (.sh M)->Bf "used" 0 J14 (Ab 0) Ac δ=.ok (.sh (.str u)))\/(¬ii=0/\us= [])):
  n_2 [M,.int ii,.lst ls]=.ok (.ow (.lst ([.int n,.int s,.lst (T.map .int),.lst (ls.map pd)] ++ us ++ [.lst X]))):=by
 have e1:=h.many (Ab 0) [some M,some (.int ii),some (.lst ls),none] rfl;have e2:=h.salt (Ab 0) [some M,some (.int ii),some (.lst ls),none] rfl;have e3:=h.tab (Ab 0) [some M,some (.int ii),some (.lst ls),none] rfl;have ec:=Go (m:=1) (fi:=Cr (Ab 2)) (fg:=gC 4) (p:=λ_=> .ok true) (f:=ay_1) (δ:=[some M,some (.int ii),some (.lst ls),none]) (ds:=ls) (by simp_arith [Am]) (by omega)
  (m_9 pd ls λd hd=>⟨[some M,some (.int ii),some (.lst ls),none,some d],.sh (pd d),rfl,h.plc (Ab 0) (Aa (Ab 4) Ac) _ d _ rfl rfl (hp d hd),rfl⟩)
 generalize T.map D.int=TT at *
 generalize ls.map pd=PP at *
 have hc:Bu (.lst ([.int n,.int s,.lst TT,.lst PP] ++ us)) (.lst [.lst X])=.ok (.ow (.lst ([.int n,.int s,.lst TT,.lst PP] ++ us ++ [.lst X]))):=cs_0 (by
  rcases hu with⟨_,u,rfl,_⟩|⟨_,rfl⟩ <;> simp)
 rcases hu with⟨rfl,u,rfl,hu⟩|⟨hf,rfl⟩
 ·have e4:=hu [some M,some (.int 0),some (.lst ls),none] rfl;have e5:=hu [some M,some (.int 0),some (.lst ls),some (.lst [.int n,.int s,.lst TT,.lst PP])] rfl;simp only [List.cons_append,List.nil_append] at hc⊢
  simp_arith [n_2,av_6,Am,e1,e2,e3,ec,Ek,Ef,e4,e5,(show(4:Nat) < 16777216 by decide),ha,hc]
 ·simp only [List.append_nil,List.cons_append,List.nil_append] at hc⊢
  simp_arith [n_2,av_6,Am,e1,e2,e3,ec,Ek,hf,ha,hc]
end
section
variable{ks V:List D}{w ia ii:Int}
abbrev stM(ks V:List D)(w ia ii:Int)(a:Sl):SE:=[.sh (.int ii),.sh (.lst ks),.sh (.lst V),.sh (.int w),.sh (.int ia),a]
def bc_2(h:g_0 (stM ks V w ia ii (.sh .non))=.ex xNoTry (stM ks V w ia ii (.sh .non))):s_5 [.int ii,.lst ks,.lst V,.int w,.int ia]=.ok (.sh .non):=by
 have t1:Ah 5 [] (eC .non) (Az 6 [.int ii,.lst ks,.lst V,.int w,.int ia])=.nx (stM ks V w ia ii (.sh .non)):=rfl;have l1:(L97:List (Str×Bool)).lookup xNoTry.c=some true:=by decide +kernel
 have t2:bf_2 g_0 [⟨none, L97,ae_3⟩] (stM ks V w ia ii (.sh .non))=.nx (stM ks V w ia ii (.sh .non)):=by
  unfold bf_2;simp only [h,tryH,l1,hdGo];rfl
 refine x_2 ?_;unfold ap_3;rw [Bq t1,Bq t2];rfl
def at_0{M:D}(h:g_0 (stM ks V w ia ii (.sh .non))=.nx (stM ks V w ia ii (.sh M))):s_5 [.int ii,.lst ks,.lst V,.int w,.int ia]=.ok (.sh M):=by
 have t1:Ah 5 [] (eC .non) (Az 6 [.int ii,.lst ks,.lst V,.int w,.int ia])=.nx (stM ks V w ia ii (.sh .non)):=rfl;have t2:bf_2 g_0 [⟨none, L97,ae_3⟩] (stM ks V w ia ii (.sh .non))=.nx (stM ks V w ia ii (.sh M)):=by
  unfold bf_2;simp only [h]
 refine x_2 ?_;unfold ap_3;rw [Bq t1,Bq t2];rfl
end
def wOk(i:Nat):Bool:=match n_6 [.int (i:Int)] with
 | .ok (.sh (.int z))=>decide (1<=z.toNat/\z.toNat<=6/\i<=2 ^ z.toNat/\(z.toNat:Int)=z)
 |_=>false
def ct_4(n:Nat)(h1:1<=n)(h2:n<=40):∃w:Nat,1<=w/\w<=6/\n<=2 ^ w/\n_6 [.int (n:Int)]=.ok (.sh (.int (w:Int))):=by
 have h:wOk (n - 1 + 1)=true:=List.all_eq_true.mp (show((List.range 40).all λi=>wOk (i + 1))=true by rfl') (n - 1) (List.mem_range.mpr (by omega));rw [Nat.sub_add_cancel h1] at h;unfold wOk at h
 split at h
 ·rename_i z e;obtain⟨a,b,c,d⟩:=of_decide_eq_true h;exact⟨_,a,b,c,by rw [e,d]⟩
 ·cases h
abbrev tbA:List (Str×(List D->R W)):= J11
def Goes(ks V ls:List D)(w:Nat)(ia ii:Int):Prop:=s_5 [.int ii,.lst ks,.lst V,.int (w:Int),.int ia]=.ok (.sh .non)\/
 ∃(c c':Str) (ns ns':List Str) (vs vs' zs A X:List D),s_5 [.int ii,.lst ks,.lst V,.int (w:Int),.int ia]=.ok (.sh (.obj c ns vs))/\n_2 [.obj c ns vs,.int ii,.lst ls]=.ok (.ow (.lst A))/\e_4 [.obj c ns vs]=.ok (.sh (.tup zs))/\
  h_6 [.tup zs]=.ok (.sh (.obj c' ns' vs'))/\n_2 [.obj c' ns' vs',.int ii,.lst ls]=.ok (.ow (.lst A))/\e_4 [.obj c' ns' vs']=.ok (.sh (.tup zs))/\Fb (.lst A) (.lst A)=.ok (.sh (.bl false))/\Fb (.tup zs) (.tup zs)=.ok (.sh (.bl false))/\
  (∀(fo:FE) (δ:DE),fo δ=.ok (.sh (.obj c' ns' vs'))->Bf "table" 0 tbA fo Ac δ=.ok (.ow (.lst X)))/\X.length < 16777216/\
  (ii=2->∀(i:Nat) (d:D),ks[i]? =some d->∃v:D,V[i]? =some v/\∀(fo:FE) (fa:FA) (δ:DE),fo δ=.ok (.sh (.obj c' ns' vs'))->fa δ=.ok [d]->Bf "value" 1 [("KeptAgain",d_8)] fo fa δ=.ok (.sh v))
def ct_5(T:List Int)(k:Nat):okD (k + 1) (.lst (T.map .int))=true:=by
 show((T.map D.int).all (okD k))=true;rw [List.all_map];exact List.all_eq_true.mpr λ_ _=>by cases k <;> rfl
def bx_4{n s:Int}{T:List Int}{ls us X:List D}{pd:D->List Nat}(hu:us= []\/∃u:Str,us= [.str u]/\u.cps.all (· < 0x110000)=true)(hX:∀x∈X,(∃i,x=.int i)\/∃b,x=.bl b):
  Fb (.lst ([.int n,.int s,.lst (T.map .int),.lst (ls.map λd=>eT (pd d))] ++ us ++ [.lst X])) (.lst ([.int n,.int s,.lst (T.map .int),.lst (ls.map λd=>eT (pd d))] ++ us ++ [.lst X]))=.ok (.sh (.bl false)):=by
 refine bg_0 3 ?_;show(List.all _ (okD 2))=true;have h1:okD 2 (.lst (T.map .int))=true:=ct_5 T 1;have h2:okD 2 (.lst (ls.map λd=>eT (pd d)))=true:=by
  show(List.all _ (okD 1))=true;rw [List.all_map];refine List.all_eq_true.mpr λd _=> ?_;show((zi (pd d)).all (okD 0))=true;unfold zi;rw [List.all_map];exact List.all_eq_true.mpr λ_ _=>rfl
 have h3:okD 2 (.lst X)=true:=by
  show(List.all _ (okD 1))=true;refine List.all_eq_true.mpr λx hx=> ?_;rcases hX x hx with⟨i,rfl⟩|⟨b,rfl⟩ <;> rfl
 rcases hu with rfl|⟨u,rfl,hu⟩
 ·simp only [List.append_nil,List.all_append,List.all_cons,List.all_nil,h1,h2,h3,Bool.and_true];rfl
 ·have h4:okD 2 (.str u)=true:=hu;simp only [List.all_append,List.all_cons,List.all_nil,h1,h2,h3,h4,Bool.and_true];rfl
def at_1{s ia ib m:Int}{T:List Int}(s0:0<=s)(s1:s<=1000000000000)(hk:ia=2\/ia=3)(p0:0 < ib)(p1:ib<=2000)(hm:0 < m)(hT:(T.length:Int)=ia * ib){d:D}(hd:isKey d):
  f_3 [d,.int s,.int ia,.int ib]=.ok (.sh (eT (Fh d s ia ib)))/\c_9 [Bp s ia ib m T,d]=.ok (.sh (.int (Dx T (Fh d s ia ib) % m)))/\(∀p∈Fh d s ia ib,p < T.length):=by
 obtain⟨q1,_⟩:=bo_8 hd s ia ib s0 s1 hk p0 p1;rw [bg_4 d s ia ib p0] at q1;have hb:∀p∈Fh d s ia ib,p < T.length:=λp hp=>by
  have:=ap_7 d s ia ib p0 (by omega) p hp;omega
 exact⟨q1,cz_4 hm q1 hb (by rw [z_8];omega),hb⟩
def bc_3{N:Nat}(h:N<=40){ia:Int}(hk:ia=2\/ia=3):Be (N:Int) ia<=50:=by
 unfold Be;rcases hk with rfl|rfl
 ·rw [if_pos (by decide)];omega
 ·rw [if_neg (by decide)];omega
def ek_1{ks:List D}{ia:Int}(h:Ks ks 0 ia)(hn:ks.length<=40)(w:Nat){V ls:List D}(hls:∀d∈ls,isKey d)(hll:ls.length<=1000):Goes ks V ls w ia 1:=by
 have h1:=h.h1;have z:¬((1:Int)=0):=by decide
 have hkd:2<=ia/\ia<=3:=by rcases h.kd with z|z <;> omega
 obtain⟨p1,_,p3,p4⟩:=s_0 (ks.length:Int) ia (by omega) (by omega) h.kd;have hle:ia * Be (ks.length:Int) ia<=3 * 50:=Int.mul_le_mul hkd.2 (bc_3 hn h.kd) (by omega) (by omega);obtain⟨w2,b1,b2,b3,b4⟩:=ct_4 ks.length h1 hn;have b3:(ks.length:Int)<=2 ^ w2:=by have:((ks.length:Nat):Int)<=((2 ^ w2:Nat):Int):=Int.ofNat_le.mpr b3;rw [Int.natCast_pow] at this;exact this
 rcases as_4 h 20 (by decide) (by decide) with⟨e,_⟩|⟨s,hs,e,e2,_⟩
 ·refine .inl (bc_2 ?_)
  simp_arith [g_0,Am,Ek,z,Es,ee_1 e,exG]
 ·obtain⟨T,t1,t2,_,e⟩:=dl_0 h (by omega) e e2;have tb:∀t∈T,0<=t/\t < 2 ^ w2:=λt ht=>by have:=t2 t ht;omega
  have hh:=co_5 (n:=(ks.length:Int)) (s:=(s:Int)) (ia:=ia) (ib:=(Be (ks.length:Int) ia)) (m:=(ks.length:Int)) (T:=T);have hh':=ba_3 (n:=(ks.length:Int)) (s:=(s:Int)) (ia:=ia) (ib:=(Be (ks.length:Int) ia)) (m:=(ks.length:Int)) (T:=T);have ag:=λd (hd:isKey d)=>at_1 (s:=(s:Int)) (m:=(ks.length:Int)) (by omega) (by omega) h.kd p3 p4 (by omega) t1 hd;have r1:=λd (hd:isKey d)=>as_8 hh ((Dl rfl (by rfl') (by rfl') (Ab 0) _ _ [d] rfl rfl rfl).trans (ay_8 hh (ag d hd).2.1));have r2:=λd (hd:isKey d)=>as_8 hh' ((Dl rfl (by rfl') (by rfl') (Ab 0) _ _ [d] rfl rfl rfl).trans (ay_8 hh' (ag d hd).2.1));have a1:=as_9 (M:=ordO (ks.length:Int) (Bp (s:Int) ia (Be (ks.length:Int) ia) (ks.length:Int) T)) (ls:=ls) (ii:=1) (by decide) hll (λd hd δ g1 g2=>(Dl rfl (by rfl') (by rfl') (Ab 0) (Aa (Ab 3) Ac) δ [d] g1 g2 rfl).trans (r1 d (hls d hd)))
   (λfa δ g1 g2=>(Dl rfl (by rfl') (by rfl') (Ab 0) fa δ [.lst ls] g1 g2 rfl).trans (al_4 hls (by omega) λd hd=>(Dl rfl (by rfl') (by rfl') (Ab 0) _ _ [d] rfl rfl rfl).trans (r1 d hd)))
  have a2:=as_9 (M:=oaO (ks.length:Int) (Bp (s:Int) ia (Be (ks.length:Int) ia) (ks.length:Int) T)) (ls:=ls) (ii:=1) (by decide) hll (λd hd δ g1 g2=>(Dl rfl (by rfl') (by rfl') (Ab 0) (Aa (Ab 3) Ac) δ [d] g1 g2 rfl).trans (r2 d (hls d hd)))
   (λfa δ g1 g2=>(Dl rfl (by rfl') (by rfl') (Ab 0) fa δ [.lst ls] g1 g2 rfl).trans (al_4 hls (by omega) λd hd=>(Dl rfl (by rfl') (by rfl') (Ab 0) _ _ [d] rfl rfl rfl).trans (r2 d hd)))
  refine .inr ⟨"Ordered","OrderedAgain",_,_,_,_,_,_,T.map .int,at_0 ?_,aj_7 hh hll (λd hd=>(ag d (hls d hd)).1) a1 (.inr ⟨z,rfl⟩),bh_0 hh (by rfl') (by rfl') b4 (z_9 hh "ordered" "" w2 (by omega) (by omega) tb),ee_7 (by omega) h.kd b1 (by omega) (by omega) tb,
   aj_7 hh' hll (λd hd=>(ag d (hls d hd)).1) a2 (.inr ⟨z,rfl⟩),bh_0 hh' (by rfl') (by rfl') b4 (z_9 hh' "ordered" "" w2 (by omega) (by omega) tb),bx_4 (.inl rfl) ?_,bx_3 _ _ _ _ _ _ _ (by decide +kernel) (by decide +kernel),λfo δ g=>by unfold Bf;rw [g];rfl',by rw [List.length_map];omega,λc=>absurd c (by decide)⟩
  ·simp_arith [g_0,Am,Ek,z,Es,e]
  ·intro x hx;rcases List.mem_append.mp hx with hx|hx <;> obtain⟨d,_,rfl⟩:=List.mem_map.mp hx <;> exact .inl ⟨_,rfl⟩
def ek_2{ks:List D}{ia:Int}(h:Ks ks 0 ia)(hn:ks.length<=40)(w:Nat)(hw0:1<=w)(hw:w<=100){vs:List Int}(hl:vs.length=ks.length)(hb:∀v∈vs,0<=v/\v < 2 ^ w){ls:List D}(hls:∀d∈ls,isKey d)(hll:ls.length<=1000):Goes ks (vs.map .int) ls w ia 2:=by
 have h1:=h.h1;have pos:(0:Int) < 2 ^ w:=Int.pow_pos (by decide);have z:¬((2:Int)=0):=by decide
 have z1:¬((2:Int)=1):=by decide
 have hkd:2<=ia/\ia<=3:=by rcases h.kd with z|z <;> omega
 obtain⟨p1,_,p3,p4⟩:=s_0 (ks.length:Int) ia (by omega) (by omega) h.kd;have hle:ia * Be (ks.length:Int) ia<=3 * 50:=Int.mul_le_mul hkd.2 (bc_3 hn h.kd) (by omega) (by omega);rcases as_4 h 20 (by decide) (by decide) with⟨e,_⟩|⟨s,hs,e,e2,_⟩
 ·refine .inl (bc_2 ?_)
  simp_arith [g_0,Am,Ek,z,z1,Es,dv_2 h w hw hl hb e,exG]
 ·obtain⟨T,t1,tb,t3,e⟩:=cz_6 h w hw hl hb (by omega) e e2;have hh:=dv_3 (n:=(ks.length:Int)) (s:=(s:Int)) (ia:=ia) (ib:=(Be (ks.length:Int) ia)) (m:=(2 ^ w)) (T:=T) (w:=(w:Int));have hh':=bx_1 (n:=(ks.length:Int)) (s:=(s:Int)) (ia:=ia) (ib:=(Be (ks.length:Int) ia)) (m:=(2 ^ w)) (T:=T) (w:=(w:Int));have ag:=λd (hd:isKey d)=>at_1 (s:=(s:Int)) (m:=2 ^ w) (by omega) (by omega) h.kd p3 p4 pos t1 hd;have r1:=λd (hd:isKey d)=>ch_4 hh (ag d hd).2.1;have r2:=λd (hd:isKey d)=>ch_4 hh' (ag d hd).2.1;have a1:=bq_1 (M:=kptO (ks.length:Int) (w:Int) (Bp (s:Int) ia (Be (ks.length:Int) ia) (2 ^ w) T)) (ls:=ls) hll (λd hd δ g1 g2=>(Dl rfl (by rfl') (by rfl') (Ab 0) (Aa (Ab 3) Ac) δ [d] g1 g2 rfl).trans (r1 d (hls d hd)));have a2:=bq_1 (M:=kaO (ks.length:Int) (w:Int) (Bp (s:Int) ia (Be (ks.length:Int) ia) (2 ^ w) T)) (ls:=ls) hll (λd hd δ g1 g2=>(Dl rfl (by rfl') (by rfl') (Ab 0) (Aa (Ab 3) Ac) δ [d] g1 g2 rfl).trans (r2 d (hls d hd)));refine .inr ⟨"Kept","KeptAgain",_,_,_,_,_,_,T.map .int,at_0 ?_,aj_7 hh hll (λd hd=>(ag d (hls d hd)).1) a1 (.inr ⟨z,rfl⟩),ct_3 (by rfl') (by rfl') (by rfl') (by rfl') (z_9 hh "kept" "" w (by omega) (by omega) tb),ee_8 (by omega) h.kd hw0 hw (by omega) tb,
   aj_7 hh' hll (λd hd=>(ag d (hls d hd)).1) a2 (.inr ⟨z,rfl⟩),ct_3 (by rfl') (by rfl') (by rfl') (by rfl') (z_9 hh' "kept" "" w (by omega) (by omega) tb),bx_4 (.inl rfl) ?_,bx_3 _ _ _ _ _ _ _ (by decide +kernel) (by decide +kernel),λfo δ g=>by unfold Bf;rw [g];rfl',by rw [List.length_map];omega,λ_ i d hi=> ?_⟩
  ·simp_arith [g_0,Am,Ek,z,z1,Es,e]
  ·intro x hx;obtain⟨d,_,rfl⟩:=List.mem_map.mp hx;exact .inl ⟨_,rfl⟩
  ·have hil:=(List.getElem?_eq_some_iff.mp hi).1;refine⟨.int (vs.getD i 0),by rw [List.getElem?_map,List.getD_eq_getElem?_getD,List.getElem?_eq_getElem (by omega:i < vs.length)];rfl,λfo fa δ g1 g2=> ?_⟩;rw [<-t3 i d hi];exact(Dl rfl (by rfl') (by rfl') fo fa δ [d] g1 g2 rfl).trans (r2 d (h.k d (List.mem_of_getElem? hi)))
def ek_3{ks:List D}{ia:Int}(h:Ks ks 0 ia)(hn:ks.length<=40)(w:Nat)(hw0:1<=w)(hw:w<=100){V ls:List D}(hls:∀d∈ls,isKey d)(hll:ls.length<=1000):Goes ks V ls w ia 3:=by
 have h1:=h.h1;have pos:(0:Int) < 2 ^ w:=Int.pow_pos (by decide);have z:¬((3:Int)=0):=by decide
 have z1:¬((3:Int)=1):=by decide
 have z2:¬((3:Int)=2):=by decide
 have hkd:2<=ia/\ia<=3:=by rcases h.kd with z|z <;> omega
 obtain⟨p1,_,p3,p4⟩:=s_0 (ks.length:Int) ia (by omega) (by omega) h.kd;have hle:ia * Be (ks.length:Int) ia<=3 * 50:=Int.mul_le_mul hkd.2 (bc_3 hn h.kd) (by omega) (by omega);rcases as_4 h 20 (by decide) (by decide) with⟨e,_⟩|⟨s,hs,e,e2,_⟩
 ·refine .inl (bc_2 ?_)
  simp_arith [g_0,Am,Ek,z,z1,z2,Es,cz_7 w e,exG]
 ·obtain⟨T,t1,tb,t3,e⟩:=ch_0 h w hw (by omega) e e2;have hh:=cz_9 (n:=(ks.length:Int)) (s:=(s:Int)) (ia:=ia) (ib:=(Be (ks.length:Int) ia)) (m:=(2 ^ w)) (T:=T) (w:=(w:Int));have hh':=bg_9 (n:=(ks.length:Int)) (s:=(s:Int)) (ia:=ia) (ib:=(Be (ks.length:Int) ia)) (m:=(2 ^ w)) (T:=T) (w:=(w:Int));have ag:=λd (hd:isKey d)=>at_1 (s:=(s:Int)) (m:=2 ^ w) (by omega) (by omega) h.kd p3 p4 pos t1 hd;have r1:=λd (hd:isKey d)=>bh_1 hh (by rfl') (ag d hd).2.1 (bx_0 hd w hw);have r2:=λd (hd:isKey d)=>bh_1 hh' (by rfl') (ag d hd).2.1 (bx_0 hd w hw);have a1:=bq_2 (M:=mrkO (ks.length:Int) (w:Int) (Bp (s:Int) ia (Be (ks.length:Int) ia) (2 ^ w) T)) (ls:=ls) hll (λd hd δ g1 g2=>(Dl rfl (by rfl') (by rfl') (Ab 0) (Aa (Ab 3) Ac) δ [d] g1 g2 rfl).trans (r1 d (hls d hd)));have a2:=bq_2 (M:=maO (ks.length:Int) (w:Int) (Bp (s:Int) ia (Be (ks.length:Int) ia) (2 ^ w) T)) (ls:=ls) hll (λd hd δ g1 g2=>(Dl rfl (by rfl') (by rfl') (Ab 0) (Aa (Ab 3) Ac) δ [d] g1 g2 rfl).trans (r2 d (hls d hd)));refine .inr ⟨"Marked","MarkedAgain",_,_,_,_,_,_,T.map .int,at_0 ?_,aj_7 hh hll (λd hd=>(ag d (hls d hd)).1) a1 (.inr ⟨z,rfl⟩),bp_9 (by rfl') (by rfl') (by rfl') (by rfl') (by rfl') (z_9 hh "marked" "" w (by omega) (by omega) tb),ee_9 (by omega) h.kd hw0 hw (by omega) tb,
   aj_7 hh' hll (λd hd=>(ag d (hls d hd)).1) a2 (.inr ⟨z,rfl⟩),bp_9 (by rfl') (by rfl') (by rfl') (by rfl') (by rfl') (z_9 hh' "marked" "" w (by omega) (by omega) tb),bx_4 (.inl rfl) ?_,bx_3 _ _ _ _ _ _ _ (by decide +kernel) (by decide +kernel),λfo δ g=>by unfold Bf;rw [g];rfl',by rw [List.length_map];omega,λc=>absurd c (by decide)⟩
  ·simp_arith [g_0,Am,Ek,z,z1,z2,Es,e]
  ·intro x hx;obtain⟨d,_,rfl⟩:=List.mem_map.mp hx;exact .inr ⟨_,rfl⟩
def ek_4{ks:List D}{ia:Int}(h:Ks ks 0 ia)(hn:ks.length<=40)(w:Nat){V ls:List D}(hls:∀d∈ls,isKey d)(hll:ls.length<=1000):Goes ks V ls w ia 0:=by
 have h1:=h.h1;have hkd:2<=ia/\ia<=3:=by rcases h.kd with z|z <;> omega
 obtain⟨p1,_,p3,p4⟩:=s_0 (ks.length:Int) ia (by omega) (by omega) h.kd;have hle:ia * Be (ks.length:Int) ia<=3 * 50:=Int.mul_le_mul hkd.2 (bc_3 hn h.kd) (by omega) (by omega);obtain⟨w1,b1,b2,b3,b4⟩:=ct_4 ia.toNat (by omega) (by omega);rw [show((ia.toNat:Nat):Int)=ia by omega] at b4;have b3:ia<=2 ^ w1:=by have:((ia.toNat:Nat):Int)<=((2 ^ w1:Nat):Int):=Int.ofNat_le.mpr b3;rw [Int.natCast_pow] at this;simpa [show((ia.toNat:Nat):Int)=ia by omega] using this
 rcases as_4 h 20 (by decide) (by decide) with⟨e,_⟩|⟨s,hs,e,e2,_⟩
 ·refine .inl (bc_2 ?_)
  simp_arith [g_0,Am,Ek,Es,ee_0 e,exG]
 ·obtain⟨T,U,t1,t2,t3,t4,e⟩:=dk_9 h (by omega) e e2;have tb:∀t∈T,0<=t/\t < 2 ^ w1:=λt ht=>by have:=t2 t ht;omega
  have hh:=cz_8 (n:=(ks.length:Int)) (s:=(s:Int)) (ia:=ia) (ib:=(Be (ks.length:Int) ia)) (m:=ia) (T:=T) (u:=Bd U);have hh':=bg_8 (n:=(ks.length:Int)) (s:=(s:Int)) (ia:=ia) (ib:=(Be (ks.length:Int) ia)) (m:=ia) (T:=T) (u:=Bd U);have ag:=λd (hd:isKey d)=>at_1 (s:=(s:Int)) (m:=ia) (by omega) (by omega) h.kd p3 p4 (by omega) t1 hd;have rr:∀d,∃z:Int,isKey d->a_8 [pelO (ks.length:Int) (Bp (s:Int) ia (Be (ks.length:Int) ia) ia T) (Bd U),d]=.ok (.sh (.int z))/\a_8 [paO (ks.length:Int) (Bp (s:Int) ia (Be (ks.length:Int) ia) ia T) (Bd U),d]=.ok (.sh (.int z)):=λd=>by
   by_cases hd:isKey d
   ·obtain⟨f1,f2,f3⟩:=ag d hd;have m1:=Int.emod_nonneg (Dx T (Fh d (s:Int) ia (Be (ks.length:Int) ia))) (show ia≠0 by omega);have m2:=Int.emod_lt_of_pos (Dx T (Fh d (s:Int) ia (Be (ks.length:Int) ia))) (show(0:Int) < ia by omega);generalize Dx T (Fh d (s:Int) ia (Be (ks.length:Int) ia)) % ia=j at f2 m1 m2;have hpl:=z_8 d (s:Int) ia (Be (ks.length:Int) ia);generalize Fh d (s:Int) ia (Be (ks.length:Int) ia)=ps at f1 f3 hpl;rw [show j=((j.toNat:Nat):Int) by omega] at f2;have hj:j.toNat < ps.length:=by omega
    have hp:=List.getElem?_eq_getElem hj;have hpm:=f3 _ (List.getElem_mem hj);have on:=dl_4 (U:=U) (p:=ps[j.toNat]) (by omega) (by omega);exact⟨_,λ_=>⟨as_8 hh ((Dl rfl (by rfl') (by rfl') (Ab 0) _ _ [d] rfl rfl rfl).trans (bh_2 hh ((Dl rfl (by rfl') (by rfl') (Ab 0) _ _ [d] rfl rfl rfl).trans (ae_7 hh.own f1)) (λ_=>by rfl') f2 hp on)),as_8 hh' ((Dl rfl (by rfl') (by rfl') (Ab 0) _ _ [d] rfl rfl rfl).trans (bh_2 hh' ((Dl rfl (by rfl') (by rfl') (Ab 0) _ _ [d] rfl rfl rfl).trans (ae_7 hh'.own f1)) (λ_=>by rfl') f2 hp on))⟩⟩
   ·exact⟨0,λc=>absurd c hd⟩
  obtain⟨f,hf⟩:∃f:D->Int,∀d,isKey d->a_8 [pelO (ks.length:Int) (Bp (s:Int) ia (Be (ks.length:Int) ia) ia T) (Bd U),d]=.ok (.sh (.int (f d)))/\a_8 [paO (ks.length:Int) (Bp (s:Int) ia (Be (ks.length:Int) ia) ia T) (Bd U),d]=.ok (.sh (.int (f d))):=⟨λd=>Classical.choose (rr d),λd=>Classical.choose_spec (rr d)⟩;have r1:=λd hd=>(hf d hd).1;have r2:=λd hd=>(hf d hd).2;have a1:=as_9 (M:=pelO (ks.length:Int) (Bp (s:Int) ia (Be (ks.length:Int) ia) ia T) (Bd U)) (ls:=ls) (ii:=0) (by decide) hll (λd hd δ g1 g2=>(Dl rfl (by rfl') (by rfl') (Ab 0) (Aa (Ab 3) Ac) δ [d] g1 g2 rfl).trans (r1 d (hls d hd)))
   (λfa δ g1 g2=>(Dl rfl (by rfl') (by rfl') (Ab 0) fa δ [.lst ls] g1 g2 rfl).trans (al_4 hls (by omega) λd hd=>(Dl rfl (by rfl') (by rfl') (Ab 0) _ _ [d] rfl rfl rfl).trans (r1 d hd)))
  have a2:=as_9 (M:=paO (ks.length:Int) (Bp (s:Int) ia (Be (ks.length:Int) ia) ia T) (Bd U)) (ls:=ls) (ii:=0) (by decide) hll (λd hd δ g1 g2=>(Dl rfl (by rfl') (by rfl') (Ab 0) (Aa (Ab 3) Ac) δ [d] g1 g2 rfl).trans (r2 d (hls d hd)))
   (λfa δ g1 g2=>(Dl rfl (by rfl') (by rfl') (Ab 0) fa δ [.lst ls] g1 g2 rfl).trans (al_4 hls (by omega) λd hd=>(Dl rfl (by rfl') (by rfl') (Ab 0) _ _ [d] rfl rfl rfl).trans (r2 d hd)))
  refine .inr ⟨"Peeled","PeeledAgain",_,_,_,_,_,_,T.map .int,at_0 ?_,aj_7 hh hll (λd hd=>(ag d (hls d hd)).1) a1 (.inl ⟨rfl,Bd U,rfl,λ δ g=>by unfold Bf;rw [g];rfl'⟩),bp_8 hh (by rfl') (by rfl') b4 (z_9 hh "peeled" (Bd U) w1 (by omega) (by omega) tb),ee_6 (by omega) h.kd b1 (by omega) (by omega) tb,
   aj_7 hh' hll (λd hd=>(ag d (hls d hd)).1) a2 (.inl ⟨rfl,Bd U,rfl,λ δ g=>by unfold Bf;rw [g];rfl'⟩),bp_8 hh' (by rfl') (by rfl') b4 (z_9 hh' "peeled" (Bd U) w1 (by omega) (by omega) tb),bx_4 (.inr ⟨Bd U,rfl,bx_2 t3⟩) ?_,bx_3 _ _ _ _ _ _ _ (by decide +kernel) (bx_2 t3),λfo δ g=>by unfold Bf;rw [g];rfl',by rw [List.length_map];omega,λc=>absurd c (by decide)⟩
  ·simp_arith [g_0,Am,Ek,Es,e]
  ·intro x hx;rcases List.mem_append.mp hx with hx|hx <;> obtain⟨d,_,rfl⟩:=List.mem_map.mp hx <;> exact .inl ⟨_,rfl⟩
def bx_5(ns:List Int){ks:List D}(hk:∀k∈ks,isKey k):∃ss:List D,ss.length<=12/\(∀k∈ss,isKey k)/\i_6 [.lst (ns.map .int),.lst ks]=.ok (.ow (.lst ss)):=by
 obtain⟨z,ez⟩:=bb_9 ns 1 (by decide) (by decide);obtain⟨Δ',e,ss,a3,a4,hl,hs,rfl⟩:=ak_5 (gV 3) p_0 (λk Δ=>∃(ss:List D) (a3 a4:Sl),ss.length<=k/\(∀k∈ss,isKey k)/\Δ= [.sh (.lst (ns.map .int)),.sh (.lst ks),.ow (.lst ss),a3,a4]) (n:=12) (lo:=0) (Δ:=[.sh (.lst (ns.map .int)),.sh (.lst ks),.ow (.lst []),.no,.no])
  ⟨[],_,_,Nat.le_refl _,λk h=>by simp at h,rfl⟩ (λk Δ hk' hI=>by
   obtain⟨ss,a3,a4,hl,hs,rfl⟩:=hI;have em:=ap_4 z (60 + (0 + (k:Int))) (by omega) (by omega);obtain⟨y,ey⟩:=cf_4 (Fo z (60 + (0 + (k:Int))));obtain⟨d,hd,ed⟩:=cn_0 y;have ei:=cf_6 hd hk;have zm:ss.length < 16777216:=by omega
   cases hb:Cm d ks with
   |true=>
    rw [hb] at ei;refine⟨_,rfl,[.sh (.lst (ns.map .int)),.sh (.lst ks),.ow (.lst ss),.sh (.int (0 + (k:Int))),.sh d],.inl ?_,ss,_,_,by omega,hs,rfl⟩
    simp_arith [p_0,Am,ez,Gw,em,ey,ed,ei]
   |false=>
    rw [hb] at ei;refine⟨_,rfl,[.sh (.lst (ns.map .int)),.sh (.lst ks),.ow (.lst (ss ++ [d])),.sh (.int (0 + (k:Int))),.sh d],.inl ?_,ss ++ [d],_,_,by simp;omega,λx hx=> ?_,rfl⟩
    ·simp_arith [p_0,Am,ez,Gw,em,ey,ed,ei,Ef,zm]
    ·rcases List.mem_append.mp hx with hx|hx
     ·exact hs x hx
     ·rw [show x=d by simpa using hx];exact hd)
 refine⟨ss,hl,hs, ?_⟩
 simp_arith [i_6,af_2,Am,Cb,n_8 (show(-4611686018427387903:Int)<=12 by decide) (by decide),show(12:Int).toNat=12 from rfl,e]
def dl_5{d:D}{ks:List D}(hd:isKey d)(hk:∀k∈ks,isKey k):inD true d (.lst ks)=.ok (.sh (.bl (!Cm d ks))):=by
 unfold inD;simp only [hd.flat,cf_5 hk,Bool.and_true,if_true,Bool.false_eq_true,if_false]
def ct_6(j:Nat)(h:j < 100):isKey (.int (0 + (j:Int))):=.inl ⟨0 + (j:Int),rfl,by omega,by omega⟩
def dl_6{ks:List D}(hk:∀k∈ks,isKey k)(a0 a2 a3 a4 a5 a6 a7 a8 a9 a10 a11 a12 a13 a14:Option D):∃ms:List D,ms.length<=100/\(∀k∈ms,isKey k)/\Bt 1 (Av Ch (Aa (eC (.int 100)) Ac)) (gC 15) bb_7 (Ab 15) [a0,some (.lst ks),a2,a3,a4,a5,a6,a7,a8,a9,a10,a11,a12,a13,a14]=.ok (.ow (.lst ms)):=by
 refine⟨((Ci 0 100).filter λd=> !Cm d ks).map id,by rw [List.length_map];exact Nat.le_trans (List.length_filter_le _ _) (by rw [k_8];exact Nat.le_refl _),λk hm=> ?_, ?_⟩
 ·obtain⟨d,hd,rfl⟩:=List.mem_map.mp hm;obtain⟨j,hj,rfl⟩:=List.mem_map.mp (List.mem_filter.mp hd).1;exact ct_6 j (List.mem_range.mp hj)
 ·refine Go (ds:=Ci 0 100) rfl (by rw [k_8];decide) ?_;refine ac_0 (λd=> !Cm d ks) id (Ci 0 100) λd hd=> ?_;obtain⟨j,hj,rfl⟩:=List.mem_map.mp hd;have nk:=ct_6 j (List.mem_range.mp hj);refine⟨[a0,some (.lst ks),a2,a3,a4,a5,a6,a7,a8,a9,a10,a11,a12,a13,a14,some (.int (0 + (j:Int)))],rfl, ?_,λ_=>⟨.sh (.int (0 + (j:Int))),rfl,rfl⟩⟩
  simp_arith [bb_7,Am,dl_5 nk hk]
def dl_7{n k:Nat}{d:D}(e:(Ci 0 n)[k]? =some d):d=.int (k:Int)/\k < n:=by
 unfold Ci at e;rw [List.getElem?_map] at e
 by_cases hk:k < n
 ·rw [List.getElem?_range hk] at e;simp only [Option.map_some,Int.zero_add,Option.some.injEq] at e;exact⟨e.symm,hk⟩
 ·rw [List.getElem?_eq_none (by simp;omega)] at e;cases e
def mdF(c1 m:Int)(d:D):D:=match d with
 | .int j=> .int (Fo c1 j % m)
 |d=>d
def dv_4(c1 m:Int)(n:Nat):(Ci 0 n).map (mdF c1 m)=((List.range n).map λj:Nat=>Fo c1 (0 + (j:Int)) % m).map .int:=by
 unfold Ci;rw [List.map_map,List.map_map];rfl
theorem ch_5{fg:FGc}{f:FE}{δ:DE}:∀(ds rs:List D),ds.length=rs.length->(∀(i:Nat) (d:D),ds[i]? =some d->∃(δ1:DE) (w:W),fg d δ=.ok δ1/\f δ1=.ok w/\rs[i]? =some w.d)->Ee fg (λ_=> .ok true) f δ ds=.ok rs
 | [],rs,hl,_=>by
  cases rs with
  |nil=>rfl
  |cons _ _=>simp at hl
 |d::ds,rs,hl,h=>by
  cases rs with
  |nil=>simp at hl
  |cons r rs=>
   obtain⟨δ1,w,e1,e2,e3⟩:=h 0 d rfl;have ih:=ch_5 ds rs (by simpa using hl) λi d hi=>h (i + 1) d hi;have e4:r=w.d:=Option.some.inj e3;show((fg d δ).bind λ δ1=>(R.ok true).bind λb=>if b=true then(f δ1).bind λw=>(Ee fg (λ_=> .ok true) f δ ds).bind λrs=> .ok (w.d::rs) else Ee fg (λ_=> .ok true) f δ ds)=_;rw [e1];simp only [R.bind_ok,if_true,e2];rw [ih];simp only [R.bind_ok,e4]
def co_6{op:D->D->R W}{f g:FE}{δ:DE}{a b:W}(h1:f δ=.ok a)(h2:g δ=.ok b):Ak op f g δ=op a.d b.d:=by
 unfold Ak;rw [h1];simp only [R.bind_ok,h2]
abbrev st58(nsD:D)(ks:List D)(c:Int)(w:Nat)(kd:Int)(b5 a6 a8 a9 a10 a11 a12 a13 a14:Sl):SE:=[.sh nsD,.sh (.lst ks),.sh (.int c),.sh (.int (w:Int)),.sh (.int (2 ^ w)),b5,a6,.sh (.int kd),a8,a9,a10,a11,a12,a13,a14]
def ifF(js:List Nat)(p:FT)(g:FS)(Δ:SE)(e:p (As Δ)=.ok false):Bw js p g Bg Δ=.nx Δ:=by
 unfold Bw;rw [e];simp only [Bool.false_eq_true,if_false];rfl
def ifT{js:List Nat}{p:FT}{g h:FS}{Δ:SE}(e:p (As Δ)=.ok true):Bw js p g h Δ=g Δ:=by
 unfold Bw;rw [e];simp only [if_true]
def orF{p q:FT}{δ:DE}(h1:p δ=.ok false)(h2:q δ=.ok false):tOrF p q δ=.ok false:=by
 unfold tOrF;rw [h1];simp only [R.bind_ok,Bool.false_eq_true,if_false];exact h2
def anF{p q:FT}{δ:DE}(h:p δ=.ok false):Eo p q δ=.ok false:=by
 unfold Eo;rw [h];simp only [R.bind_ok,Bool.false_eq_true,if_false]
def anT{p q:FT}{δ:DE}(h:p δ=.ok true)(h2:q δ=.ok false):Eo p q δ=.ok false:=by
 unfold Eo;rw [h];simp only [R.bind_ok,if_true];exact h2
def neF{f g:FE}{δ:DE}{a b:W}(h1:f δ=.ok a)(h2:g δ=.ok b)(h:Fb a.d b.d=.ok (.sh (.bl false))):Ao (Ak Fb f g) δ=.ok false:=by
 unfold Ao;rw [co_6 h1 h2,h];rfl
def ct_7{nsD:D}{ks ls:List D}{vs:List Int}{c kd ii:Int}{w:Nat}(hl:vs.length=ks.length)(hkl:ks.length<=40)(hg:Goes ks (vs.map .int) ls w kd ii){b5 a6 a8 a10 a11 a12 a13 a14:Sl}(h6:a6=.ow (.lst (vs.map .int))\/a6=.sh (.lst (vs.map .int)))(h8:a8=.ow (.lst ls)\/a8=.sh (.lst ls)):
  ∃e6 e8 e10 e11 e12 e13 e14,(e6=.ow (.lst (vs.map .int))\/e6=.sh (.lst (vs.map .int)))/\(e8=.ow (.lst ls)\/e8=.sh (.lst ls))/\bb_8 (st58 nsD ks c w kd b5 a6 a8 (.sh (.int ii)) a10 a11 a12 a13 a14)=.nx (st58 nsD ks c w kd b5 e6 e8 (.sh (.int ii)) e10 e11 e12 e13 e14):=by
 rcases hg with e|⟨c1,c2,n1,n2,v1,v2,zs,A,X,e,ea,et,em,ea2,et2,na,nt,ex,hX,hv⟩
 ·refine⟨a6,a8,.sh .non,a11,a12,a13,a14,h6,h8, ?_⟩;unfold bb_8;exact(Bq (Δ':=st58 nsD ks c w kd b5 a6 a8 (.sh (.int ii)) (.sh .non) a11 a12 a13 a14) (by rcases h6 with rfl|rfl <;> simp_arith [Am,e])).trans rfl
 ·refine⟨.sh (.lst (vs.map .int)),.sh (.lst ls),.sh (.obj c1 n1 v1),.ow (.lst A),.sh (.tup zs),.sh (.obj c2 n2 v2),.sh (.obj c2 n2 v2),.inr rfl,.inr rfl, ?_⟩;unfold bb_8;refine(Bq (Δ':=st58 nsD ks c w kd b5 (.sh (.lst (vs.map .int))) a8 (.sh (.int ii)) (.sh (.obj c1 n1 v1)) a11 a12 a13 a14) (by rcases h6 with rfl|rfl <;> simp_arith [Am,e])).trans ((ifT rfl).trans ?_);refine(Bq (Δ':=st58 nsD ks c w kd b5 (.sh (.lst (vs.map .int))) (.sh (.lst ls)) (.sh (.int ii)) (.sh (.obj c1 n1 v1)) (.ow (.lst A)) a12 a13 a14) (by rcases h8 with rfl|rfl <;> simp_arith [Am,ea])).trans ?_;generalize D.obj c1 n1 v1=M at *
  generalize D.obj c2 n2 v2=M' at *
  refine(Bq (by simp_arith [Am,et];rfl)).trans ?_;refine(Bq (by simp_arith [Am,em];rfl)).trans ?_;refine(Bq (ifF _ _ _ _ (by simp_arith [Am,ea2,na,et2,nt]))).trans ?_;refine(Bq (by unfold cs_2;rw [ex (Ab 13) _ rfl];simp only [hX,if_true];rfl)).trans ?_;refine(Bq (by simp_arith [Am,et2,em];rfl)).trans ?_;refine(Bq (ifF _ _ _ _ (by simp_arith [Am,ea2,na]))).trans (ifF _ _ _ _ (orF ?_ (by simp_arith [Am,et,nt])))
  by_cases hf:ii=2
  ·refine anT (by simp_arith [Am,Ek,hf]) (neF (b:=.sh (.lst (vs.map .int))) (Go (ds:=ks) rfl (by omega) (ch_5 ks (vs.map .int) (by rw [List.length_map,hl]) λi d hi=> ?_)) rfl (bg_0 1 (ct_5 vs 0)));obtain⟨v,g1,g2⟩:=hv hf i d hi;exact⟨_,.sh v,rfl,g2 (Ab 14) (Aa (Ab 15) Ac) _ rfl rfl,g1⟩
  ·exact anF (by simp_arith [Am,Ek,hf])
def dl_8(ns:List Int)(hn:ns.length<=63):∃v,di_4 [.lst (ns.map .int)]=.ok v/\v.d=.bl true:=by
 obtain⟨ks,hne,hl,hk,hd,ek⟩:=dt_8 ns 2 40 hn (by decide) (by decide) (by decide) (by decide);have gk:0 < ks.length:=List.length_pos_iff.mpr hne;have er:=av_7 ns 1 (by decide);generalize ns.getD (1:Int).toNat 0=c at er;obtain⟨kd,hkd,ekd⟩:∃kd:Int,(kd=2\/kd=3)/\2 + c / 4 % 2=kd:=⟨2 + c / 4 % 2,by omega,rfl⟩;obtain⟨w,hw0,hw1,ew⟩:∃w:Nat,1<=w/\w<=32/\1 + c / 8 % 32=(w:Int):=⟨(1 + c / 8 % 32).toNat,by omega,by omega,by omega⟩;obtain⟨c1,ec1⟩:=bb_9 ns 1 (by decide) (by decide);have pos:(0:Int) < 2 ^ w:=Int.pow_pos (by decide);have mm:=λi:Int=>Fx (i:=i) pos;generalize hns:D.lst (ns.map .int)=nsD at *
 have t1:bv_3 (Az 15 [nsD])=.nx [.sh nsD,.ow (.lst ks),.no,.no,.no,.no,.no,.no,.no,.no,.no,.no,.no,.no,.no]:=by
  simp_arith [bv_3,Am,ek]
 have t2:bv_4 [.sh nsD,.ow (.lst ks),.no,.no,.no,.no,.no,.no,.no,.no,.no,.no,.no,.no,.no]=.nx [.sh nsD,.ow (.lst ks),.sh (.int c),.no,.no,.no,.no,.no,.no,.no,.no,.no,.no,.no,.no]:=by
  simp_arith [bv_4,Am,er]
 have t3:bv_5 [.sh nsD,.ow (.lst ks),.sh (.int c),.no,.no,.no,.no,.no,.no,.no,.no,.no,.no,.no,.no]=.nx [.sh nsD,.ow (.lst ks),.sh (.int c),.sh (.int (w:Int)),.no,.no,.no,.no,.no,.no,.no,.no,.no,.no,.no]:=by
  simp_arith [bv_5,Am,x_7 (show(0:Int) < 8 by decide) (by decide),Fx (show(0:Int) < 32 by decide),Gw,ew]
 have t4:bv_6 [.sh nsD,.ow (.lst ks),.sh (.int c),.sh (.int (w:Int)),.no,.no,.no,.no,.no,.no,.no,.no,.no,.no,.no]=.nx [.sh nsD,.ow (.lst ks),.sh (.int c),.sh (.int (w:Int)),.sh (.int (2 ^ 0)),.no,.no,.no,.no,.no,.no,.no,.no,.no,.no]:=by
  simp_arith [bv_6,Am];rfl
 obtain⟨Δ6,e6,b5,rfl⟩:=h_9 (gV 5) bv_2 (λk Δ=>∃b5,Δ= [.sh nsD,.ow (.lst ks),.sh (.int c),.sh (.int (w:Int)),.sh (.int (2 ^ k)),b5,.no,.no,.no,.no,.no,.no,.no,.no,.no]) (ds:=Ci 0 w) (Δ:=[.sh nsD,.ow (.lst ks),.sh (.int c),.sh (.int (w:Int)),.sh (.int (2 ^ 0)),.no,.no,.no,.no,.no,.no,.no,.no,.no,.no]) ⟨_,rfl⟩ (λk d Δ hd hI=>by
  obtain⟨b5,rfl⟩:=hI;obtain⟨rfl,hkw⟩:=dl_7 hd;have m2:Dg (.int 2) (.int (2 ^ k))=.ok (.sh (.int (2 * 2 ^ k))):=Ep (Gm (by decide) (by decide));refine⟨[.sh nsD,.ow (.lst ks),.sh (.int c),.sh (.int (w:Int)),.sh (.int (2 ^ k)),.sh (.int (k:Int)),.no,.no,.no,.no,.no,.no,.no,.no,.no],rfl,[.sh nsD,.ow (.lst ks),.sh (.int c),.sh (.int (w:Int)),.sh (.int (2 ^ (k + 1))),.sh (.int (k:Int)),.no,.no,.no,.no,.no,.no,.no,.no,.no],.inl ?_,_,rfl⟩;rw [Int.pow_succ,Int.mul_comm (2 ^ k) 2]
  simp_arith [bv_2,Am,m2])
 rw [k_8] at e6;have t5:bv_7 [.sh nsD,.ow (.lst ks),.sh (.int c),.sh (.int (w:Int)),.sh (.int (2 ^ 0)),.no,.no,.no,.no,.no,.no,.no,.no,.no,.no]=.nx [.sh nsD,.ow (.lst ks),.sh (.int c),.sh (.int (w:Int)),.sh (.int (2 ^ w)),b5,.no,.no,.no,.no,.no,.no,.no,.no,.no]:=by
  have hi:Av Ch (Aa (Ab 3) Ac) (Bb [.sh nsD,.ow (.lst ks),.sh (.int c),.sh (.int (w:Int)),.sh (.int (2 ^ 0)),.no,.no,.no,.no,.no,.no,.no,.no,.no,.no])=.ok (Ci 0 w):=by
   simp_arith [Am,n_8 (show(-4611686018427387903:Int)<=(w:Int) by omega) (by omega),Int.toNat_natCast]
  unfold bv_7 Cb;rw [hi];exact e6
 obtain⟨vs0,hvs0⟩:∃v:List Int,v=(List.range ks.length).map λj:Nat=>Fo c1 (0 + (j:Int)) % 2 ^ w:=⟨_,rfl⟩;have hv0:vs0.length=ks.length:=by rw [hvs0,List.length_map,List.length_range]
 have hb0:∀v∈vs0,0<=v/\v < 2 ^ w:=λv hv=>by
  rw [hvs0] at hv;obtain⟨j,_,rfl⟩:=List.mem_map.mp hv;exact⟨Int.emod_nonneg _ (by omega),Int.emod_lt_of_pos _ pos⟩
 have t6:bv_8 [.sh nsD,.ow (.lst ks),.sh (.int c),.sh (.int (w:Int)),.sh (.int (2 ^ w)),b5,.no,.no,.no,.no,.no,.no,.no,.no,.no]=.nx [.sh nsD,.sh (.lst ks),.sh (.int c),.sh (.int (w:Int)),.sh (.int (2 ^ w)),b5,.ow (.lst (vs0.map .int)),.no,.no,.no,.no,.no,.no,.no,.no]:=by
  have ec:∀b:Option D,Bt 1 (Av Ch (Aa (Aj By (Aa (Ab 1) Ac)) Ac)) (gC 15) (λ_=> .ok true) ae_6 [some nsD,some (.lst ks),some (.int c),some (.int (w:Int)),some (.int (2 ^ w)),b,none,none,none,none,none,none,none,none,none]=.ok (.ow (.lst (vs0.map .int))):=λb=>by
   refine Go (ds:=Ci 0 ks.length) (by simp_arith [Am,k_3,n_8 (show(-4611686018427387903:Int)<=(ks.length:Int) by omega) (by omega),Int.toNat_natCast]) (by rw [k_8];omega) ?_;have:=m_9 (fg:=gC 15) (f:=ae_6) (δ:=[some nsD,some (.lst ks),some (.int c),some (.int (w:Int)),some (.int (2 ^ w)),b,none,none,none,none,none,none,none,none,none,none]) (mdF c1 (2 ^ w)) (Ci 0 ks.length) (λd hd=>by
    obtain⟨j,hj,rfl⟩:=List.mem_map.mp hd;have hj:=List.mem_range.mp hj;refine⟨[some nsD,some (.lst ks),some (.int c),some (.int (w:Int)),some (.int (2 ^ w)),b,none,none,none,none,none,none,none,none,none,some (.int (0 + (j:Int)))],.sh (.int (Fo c1 (0 + (j:Int)) % 2 ^ w)),rfl, ?_,rfl⟩
    simp_arith [ae_6,Am,ec1,ap_4 c1 (0 + (j:Int)) (by omega) (by omega),mm])
   rw [dv_4,<-hvs0] at this;exact this
  have e1:Bt 1 (Av Ch (Aa (Aj By (Aa (Ab 1) Ac)) Ac)) (gC 15) (λ_=> .ok true) ae_6 (Bb [.sh nsD,.ow (.lst ks),.sh (.int c),.sh (.int (w:Int)),.sh (.int (2 ^ w)),b5,.no,.no,.no,.no,.no,.no,.no,.no,.no])=.no:=rfl;have e2:Bt 1 (Av Ch (Aa (Aj By (Aa (Ab 1) Ac)) Ac)) (gC 15) (λ_=> .ok true) ae_6 (As [.sh nsD,.ow (.lst ks),.sh (.int c),.sh (.int (w:Int)),.sh (.int (2 ^ w)),b5,.no,.no,.no,.no,.no,.no,.no,.no,.no])=.ok (.ow (.lst (vs0.map .int))):=ec b5.any;have e3:Bt 1 (Av Ch (Aa (Aj By (Aa (Ab 1) Ac)) Ac)) (gC 15) (λ_=> .ok true) ae_6 (Bb (gsome [0,1,4] [.sh nsD,.ow (.lst ks),.sh (.int c),.sh (.int (w:Int)),.sh (.int (2 ^ w)),b5,.no,.no,.no,.no,.no,.no,.no,.no,.no]))=.ok (.ow (.lst (vs0.map .int))):=ec b5.pub;have hnf:Bc (.lst (vs0.map .int))=false:=rfl;unfold bv_8 Ah;rw [e1];simp only [e2,e3,W.d_ow,hnf,Bool.false_eq_true,if_false];rfl
 have t7:bv_9 [.sh nsD,.sh (.lst ks),.sh (.int c),.sh (.int (w:Int)),.sh (.int (2 ^ w)),b5,.ow (.lst (vs0.map .int)),.no,.no,.no,.no,.no,.no,.no,.no]=.nx [.sh nsD,.sh (.lst ks),.sh (.int c),.sh (.int (w:Int)),.sh (.int (2 ^ w)),b5,.ow (.lst (vs0.map .int)),.sh (.int kd),.no,.no,.no,.no,.no,.no,.no]:=by
  simp_arith [bv_9,Am,x_7 (show(0:Int) < 4 by decide) (by decide),Fx (show(0:Int) < 2 by decide),Gw,ekd]
 have h0:Ks ks 0 kd:=⟨hk,hd,by omega,by omega,by decide,by decide,hkd⟩;obtain⟨ss,s1,s2,es⟩:=bx_5 ns hk;rw [hns] at es;obtain⟨ms,m1,m2,ea⟩:=dl_6 hk (some nsD) (some (.int c)) (some (.int (w:Int))) (some (.int (2 ^ w))) b5.pub none (some (.int kd)) none none none none none none none;obtain⟨L,hL⟩:∃L:List D,L=ks ++ ss ++ ms:=⟨_,rfl⟩;have hls:∀d∈L,isKey d:=λd hd=>by
  rw [hL] at hd;rcases List.mem_append.mp hd with hd|hd
  ·rcases List.mem_append.mp hd with hd|hd
   ·exact hk d hd
   ·exact s2 d hd
  ·exact m2 d hd
 have hll:L.length<=1000:=by rw [hL];simp only [List.length_append];omega
 have a1:Bu (.lst ks) (.lst ss)=.ok (.ow (.lst (ks ++ ss))):=if_pos (by omega);have a2:Bu (.lst (ks ++ ss)) (.lst ms)=.ok (.ow (.lst L)):=by rw [hL];exact if_pos (by rw [List.length_append];omega)
 have e8a:Ap 2 i_6 (Aa (Ab 0) (Aa (Ab 1) Ac)) (Bb [.sh nsD,.sh (.lst ks),.sh (.int c),.sh (.int (w:Int)),.sh (.int (2 ^ w)),b5,.ow (.lst (vs0.map .int)),.sh (.int kd),.no,.no,.no,.no,.no,.no,.no])=.ok (.ow (.lst ss)):=by
  simp_arith [Am,es]
 have e8:Ak Bu (Ak Bu (Ab 1) (Ap 2 i_6 (Aa (Ab 0) (Aa (Ab 1) Ac)))) (Bt 1 (Av Ch (Aa (eC (.int 100)) Ac)) (gC 15) bb_7 (Ab 15)) (Bb [.sh nsD,.sh (.lst ks),.sh (.int c),.sh (.int (w:Int)),.sh (.int (2 ^ w)),b5,.ow (.lst (vs0.map .int)),.sh (.int kd),.no,.no,.no,.no,.no,.no,.no])=.ok (.ow (.lst L)):=
  (co_6 (a:=.ow (.lst (ks ++ ss))) (b:=.ow (.lst ms)) ((co_6 (a:=.sh (.lst ks)) (b:=.ow (.lst ss)) rfl e8a).trans a1) ea).trans a2
 have t8:bw_0 [.sh nsD,.sh (.lst ks),.sh (.int c),.sh (.int (w:Int)),.sh (.int (2 ^ w)),b5,.ow (.lst (vs0.map .int)),.sh (.int kd),.no,.no,.no,.no,.no,.no,.no]=.nx (st58 nsD ks c w kd b5 (.ow (.lst (vs0.map .int))) (.ow (.lst L)) .no .no .no .no .no .no):=by
  unfold bw_0 Ah;rw [e8];rfl
 have gg:∀ii:Int,0<=ii->ii < 4->Goes ks (vs0.map .int) L w kd ii:=λii f0 f1=>by
  rcases(show ii=0\/ii=1\/ii=2\/ii=3 by omega) with rfl|rfl|rfl|rfl
  ·exact ek_4 h0 (by omega) w hls hll
  ·exact ek_1 h0 (by omega) w hls hll
  ·exact ek_2 h0 (by omega) w hw0 (by omega) hv0 hb0 hls hll
  ·exact ek_3 h0 (by omega) w hw0 (by omega) hls hll
 obtain⟨x6,x8,x10,x11,x12,x13,x14,hx6,hx8,r1⟩:=ct_7 (nsD:=nsD) (c:=c) (ii:=c % 4) hv0 (by omega) (gg (c % 4) (by omega) (by omega)) (b5:=b5) (a6:=.ow (.lst (vs0.map .int))) (a8:=.ow (.lst L)) (a10:=.no) (a11:=.no) (a12:=.no) (a13:=.no) (a14:=.no) (.inl rfl) (.inl rfl);obtain⟨y6,y8,y10,y11,y12,y13,y14,_,_,r2⟩:=ct_7 (nsD:=nsD) (c:=c) (ii:=(c + 1) % 4) hv0 (by omega) (gg ((c + 1) % 4) (by omega) (by omega)) (b5:=b5) (a6:=x6) (a8:=x8) (a10:=x10) (a11:=x11) (a12:=x12) (a13:=x13) (a14:=x14) hx6 hx8;have t9:bw_1 (st58 nsD ks c w kd b5 (.ow (.lst (vs0.map .int))) (.ow (.lst L)) .no .no .no .no .no .no)=.nx (st58 nsD ks c w kd b5 y6 y8 (.sh (.int ((c + 1) % 4))) y10 y11 y12 y13 y14):=by
  have hi:Cr (Dh (Aa (Ak Dv (Ab 2) (eC (.int 4))) (Aa (Ak Dv (Ak Bu (Ab 2) (eC (.int 1))) (eC (.int 4))) Ac))) (Bb (st58 nsD ks c w kd b5 (.ow (.lst (vs0.map .int))) (.ow (.lst L)) .no .no .no .no .no .no))=.ok [.int (c % 4),.int ((c + 1) % 4)]:=by
   simp_arith [Am,Fx (show(0:Int) < 4 by decide),Gw]
  unfold bw_1 Cb;rw [hi];simp only [Ey,gV,List.set_cons_succ,List.set_cons_zero,r1,r2]
 refine⟨.sh (.bl true), ?_,rfl⟩;unfold di_4;refine x_2 ?_;unfold dw_5;rw [Bq t1,Bq t2,Bq t3,Bq t4,Bq t5,Bq t6,Bq t7,Bq t8,Bq t9];rfl
end My
set_option maxHeartbeats 20000000
namespace My
open PySem PyProof.Rows L2 L3
def Aw(i:Nat):Stmt:=PySem.Challenge.pw_lodge_k58_made_again.main.body.getD i (.Pass ⟨0,0,0,0⟩)
def ac_8:Stmt->List Stmt
 | .ClassDef (body:=b) .. =>b
 |_=> []
def Ba(i j:Nat):Stmt:=(ac_8 (Aw i)).getD j (.Pass ⟨0,0,0,0⟩)
section
variable{P:Program}{w:World}{K:Frag}{mg:Str->Option Value}{base:Heap}{f:Addr}{fd:FuncData}
abbrev TF(c:Bool)(x:Str)(k:Nat)(ps:List Str)(F:List D->R W)(P:Program)(w:World)(K:Frag)(mg:Str->Option Value)(base:Heap):Prop:=FnD P w K mg base c x k ps F
abbrev Lu:List Str:=["_law_script","_law_k"]
abbrev bq_3:=TF true "_law_raw" 1 Lu n_0
abbrev bq_4:=TF true "_law_mix" 1 ["_law_cell_here","_law_k"] j_6
abbrev bh_3:=TF true "_law_cell" 2 Lu j_9
abbrev ay_9:=TF true "_law_great" 2 ["_law_cell_here"] n_5
abbrev Lp:List Str:=["_law_script","_law_start","_law_most"]
abbrev az_0:=TF true "_law_cells" 3 Lp s_9
abbrev bq_5:=TF true "_law_key" 1 ["_law_cell_here"] q_0
abbrev bh_4:=TF true "_law_keys" 4 Lp u_9
abbrev ag_3:=TF true "_law_strangers" 3 ["_law_script","_law_keys_here"] i_6
abbrev an_1:=TF true "is_key_text" 1 ["text"] q_7
abbrev ch_6:=TF true "is_key" 2 ["thing"] x_9
abbrev ag_4:=TF true "look_each_key" 3 ["keys"] i_7
abbrev an_2:=TF true "look_unlike" 3 ["keys"] q_8
abbrev az_1:=TF true "look_keys" 4 ["keys"] j_1
abbrev az_2:=TF true "part_size" 1 ["many","kind"] i_4
abbrev ct_8:=TF true "worth" 1 ["text"] ar_6
abbrev ct_9:=TF true "stamp" 3 ["key"] ae_0
abbrev cu_0:=TF true "mixed" 1 ["number","salt","size"] ak_8
abbrev az_3:=TF true "places_of" 4 ["key","salt","kind","part"] f_3
abbrev Lm:List Str:=["keys","salt","kind"]
abbrev bh_5:=TF true "edges_of" 5 Lm v_0
abbrev an_3:=TF true "standing_at" 1 ["edges"] q_9
abbrev ch_7:=TF true "peeled" 2 ["edges","size"] ar_7
abbrev dl_9:=TF true "fate" 6 Lm Gf
abbrev bh_6:=TF true "succeeds" 7 Lm g_3
abbrev az_4:=TF true "first_try" 8 ["keys","kind","most"] Df
abbrev ag_5:=TF true "chosen_places" 7 Lm o_5
abbrev bh_7:=TF true "is_below" 1 ["number","limit"] m_1
abbrev L35:List Str:=["number","modulus"]
abbrev az_5:=TF true "remainder" 1 L35 t_0
abbrev ch_8:=TF true "summed" 2 ["table","places","modulus"] p_6
abbrev L11:List Str:=["edges","size","order","wanted","modulus"]
abbrev ch_9:=TF true "filled" 3 L11 ai_7
abbrev L14:List Str:=["keys","salt","kind","modulus","wanted"]
abbrev az_6:=TF true "table_for" 7 L14 h_1
abbrev ag_6:=TF true "row_with_ones" 1 ["places","size"] k_9
abbrev ci_0:=TF true "two_to" 1 ["width"] n_1
abbrev an_4:=TF true "look_values" 3 ["values","many","limit"] j_2
abbrev dm_0:=TF true "mark" 4 ["key","width"] ap_2
abbrev Lw:List Str:=["_law_form","_law_keys_here","_law_values","_law_width","_law_kind"]
abbrev bh_8:=TF true "_law_made" 11 Lw s_5
abbrev an_5:=TF true "ones_before" 1 ["bits","place"] o_9
abbrev Lf:List Str:=["_law_house","_law_form","_law_keys_here"]
abbrev an_6:=TF true "_law_answers" 10 Lf h_5
abbrev bq_6:=TF true "_law_all" 11 Lf n_2
abbrev ac_9:=TF true "number_written" 1 ["number","width"] n_3
abbrev bq_7:=TF true "written" 3 ["numbers","width"] ac_5
abbrev bq_8:=TF true "told_by" 4 ["name","house","width","used"] l_0
abbrev az_7:=TF true "width_for" 1 ["number"] n_6
abbrev at_2:=TF true "house_told" 5 ["house"] e_4
abbrev an_7:=TF true "is_multiple" 1 ["length","width"] r_0
abbrev L29:List Str:=["bits","width"]
abbrev az_8:=TF true "look_bits" 3 L29 v_9
abbrev an_8:=TF true "number_read" 1 ["bits"] r_1
abbrev az_9:=TF true "read_bits" 4 L29 w_0
abbrev L24:List Str:=["bits","width","size"]
abbrev ag_7:=TF true "numbers_again" 5 L24 o_7
abbrev Lz:List Str:=["name","kind","salt","many","width","bits","used"]
abbrev bh_9:=TF true "house_of" 6 Lz p_8
abbrev at_3:=TF true "made_again" 7 ["what"] h_6
def Co:= @Fun.binds1
def Cc:= @Fun.binds2
def bn3:= @Fun.binds3
def bn4:= @Fun.binds4
def bn5:= @Fun.binds5
def bn6:= @Fun.binds6
def bn7:= @Fun.binds7
abbrev ab_2:Stmt:=(ac_8 (Aw 5)).getD 0 (.Pass ⟨0,0,0,0⟩)
abbrev Lq:List Str:=["self","at"]
def bi_0:FnScope Lq Lq (Ck ab_2):=⟨rfl,rfl,rfl,by decide +kernel,rfl,by decide +kernel,by decide +kernel⟩
def bi_1{C f:Addr}{fd:FuncData}(F:Fun K "__init__" "NoBits.__init__" ab_2 f fd)(xc:XCls K C)(hn:findIn K (.ref C) "at" =some none):FnX P w K mg base false 1 f fd Lq (ai_0 C "at"):=
 bb_6 (k:=0) F bi_0 λzq A outer s H E=>aq_0 (bb_5 xc hn (Fe rfl (.inl rfl)) (Fe rfl (.inl rfl)))
abbrev y_8:Stmt:=(ac_8 (Aw 7)).getD 0 (.Pass ⟨0,0,0,0⟩)
def ba_4:FnScope Lq Lq (Ck y_8):=⟨rfl,rfl,rfl,by decide +kernel,rfl,by decide +kernel,by decide +kernel⟩
def ba_5{C f:Addr}{fd:FuncData}(F:Fun K "__init__" "NoValue.__init__" y_8 f fd)(xc:XCls K C)(hn:findIn K (.ref C) "at" =some none):FnX P w K mg base false 1 f fd Lq (ai_0 C "at"):=
 bb_6 (k:=0) F ba_4 λzq A outer s H E=>aq_0 (bb_5 xc hn (Fe rfl (.inl rfl)) (Fe rfl (.inl rfl)))
abbrev ae_9:Stmt:=(ac_8 (Aw 4)).getD 0 (.Pass ⟨0,0,0,0⟩)
def bk_7:FnScope Lq Lq (Ck ae_9):=⟨rfl,rfl,rfl,by decide +kernel,rfl,by decide +kernel,by decide +kernel⟩
def bk_8{C f:Addr}{fd:FuncData}(F:Fun K "__init__" "Twice.__init__" ae_9 f fd)(xc:XCls K C)(hn:findIn K (.ref C) "at" =some none):FnX P w K mg base false 1 f fd Lq (ai_0 C "at"):=
 bb_6 (k:=0) F bk_7 λzq A outer s H E=>aq_0 (bb_5 xc hn (Fe rfl (.inl rfl)) (Fe rfl (.inl rfl)))
abbrev af_0:Stmt:=(ac_8 (Aw 3)).getD 0 (.Pass ⟨0,0,0,0⟩)
def bk_9:FnScope Lq Lq (Ck af_0):=⟨rfl,rfl,rfl,by decide +kernel,rfl,by decide +kernel,by decide +kernel⟩
def bl_0{C f:Addr}{fd:FuncData}(F:Fun K "__init__" "NoKey.__init__" af_0 f fd)(xc:XCls K C)(hn:findIn K (.ref C) "at" =some none):FnX P w K mg base false 1 f fd Lq (ai_0 C "at"):=
 bb_6 (k:=0) F bk_9 λzq A outer s H E=>aq_0 (bb_5 xc hn (Fe rfl (.inl rfl)) (Fe rfl (.inl rfl)))
variable(j8:mg "len" =none)
def co_7(F:Fun K "_law_raw" "_law_raw" (Aw 75) f fd):FnX P w K mg base true 1 f fd Lu (Bh K 2 n_0):=
 Bl (N:= Lu) F λzr zu hu nd zv=>(Ar (Cn [0,1] (Cl ao_5 (Ad 1) (Cy Er rfl j8 PySem.boot_len (Ae (Ad 0) Al)) (Cp _))
   (Aq (Bj [0,1] (t_5 (Ad 0) (Ad 1))))
   Ct)
  (Aq (Bj [] Au)))
def co_8(F:Fun K "_law_mix" "_law_mix" (Aw 74) f fd):FnX P w K mg base true 1 f fd ["_law_cell_here","_law_k"] (Bh K 2 j_6):=
 Bl (N:=["_law_cell_here","_law_k","_law_first"]) F λzr zu hu nd zv=>(Ar (Bk (i:=2) [0,1] (Ay Ez (Ay Eu (Ay Cz (Ad 0) Au) (Ay Cz Au (Ay Eu Au (Ad 1)))) Au) nd)
  (Aq (Bj [1,2] (Ay Ez (Ay Cz (Ay Cz (Ay Eu (Ay t_6 (Ad 2) Au) Au) (Ay Eu (Ad 2) (Ay Cz (Ay Eu (Ad 1) (Ad 1)) Au))) (Ad 1)) Au))))
variable(l9:bq_4 P w K mg base)(o9:bq_3 P w K mg base)
def ci_1(F:Fun K "_law_cell" "_law_cell" (Aw 76) f fd):FnX P w K mg base true 2 f fd Lu (Bh K 2 j_9):=
 Bl (N:= Lu) F λzr zu hu nd zv=>(Aq (Bj [0,1] (Ax zu zv l9 (Ae (Ay Ez (Ax zu zv o9 (Ae (Ad 0) (Ae (Ad 1) Al))) Au) (Ae (Ay Cz (Ad 1) Au) Al)))))
def bx_7(F:Fun K "_law_great" "_law_great" (Aw 78) f fd):FnX P w K mg base true 2 f fd ["_law_cell_here"] (Bh K 1 n_5):=
 Bl (N:=["_law_cell_here"]) F λzr zu hu nd zv=>(Aq (Bj [0] (Ay Cz (Ay Eu (Ay Cz (Ay Eu (Ax zu zv l9 (Ae (Ad 0) (Ae Au Al))) Au) (Ax zu zv l9 (Ae (Ad 0) (Ae Au Al)))) Au) (Ax zu zv l9 (Ae (Ad 0) (Ae Au Al))))))
variable(p9:bh_3 P w K mg base)(y2:ay_9 P w K mg base)(am4:mg "max" =none)(j6:mg "range" =none)(ah1:mg "min" =none)
abbrev Lr:List Str:=["_law_script","_law_start","_law_most","_law_cells_here","_law_many","_law_k"]
def bx_8(F:Fun K "_law_cells" "_law_cells" (Aw 79) f fd):FnX P w K mg base true 3 f fd Lp (Bh K 3 s_9):=
 Bl (N:=["_law_script","_law_start","_law_most","_law_cells_here","_law_many"]) F λzr zu hu nd zv=>(Ar (Bk (i:=3) [0,1] (Cy (ab_7 zr) rfl am4 PyProof.Rows.boot_max (Ae Au (Ae (Ay aq_7 (Cy Er rfl j8 PySem.boot_len (Ae (Ad 0) Al)) (Ad 1)) Al))) nd)
  (Ar (Cn [0] (Cl (Ga hu) (Ay Ez (Ax zu zv o9 (Ae (Ad 0) (Ae Au Al))) Au) Au (Cp _))
   (Aq (Bj [0,1,2,3] (l_2 (N':= Lr) zr (i_5 j6 (Ae (Cy (au_2 (dh_5 zr)) rfl ah1 PyProof.Rows.boot_min (Ae (Ad 2) (Ae (Ad 3) Al))) Al)) rfl (by rfl') rfl (λC s0 H0 fp pn=>⟨(Gn (i:=5)),p_3,(Ax (g_8 zu) l_1 o9 (Ae (Ad 0) (Ae (Ay Cz (Ad 1) (Ad 5)) Al)))⟩))))
   Ct)
  (Ar (Bk (i:=4) [0,2,3] (Cy (au_2 zr) rfl ah1 PyProof.Rows.boot_min (Ae (Ad 2) (Ae (Cy (ab_7 zr) rfl am4 PyProof.Rows.boot_max (Ae (Ad 3) (Ae (Ay Cz Au (Ay Ez (Ax zu zv p9 (Ae (Ad 0) (Ae Au Al))) (Ad 2))) Al))) Al))) nd)
  (Aq (Bj [0,1,3,4] (l_2 (N':= Lr) zr (i_5 j6 (Ae (Ad 4) Al)) rfl (by rfl') rfl (λC s0 H0 fp pn=>⟨(Gn (i:=5)),p_3,(Ax (g_8 zu) l_1 y2 (Ae (Ax (g_8 zu) l_1 l9 (Ae (Ax (g_8 zu) l_1 p9 (Ae (Ad 0) (Ae (Ay Cz (Ad 1) (Ay Ez (Ad 5) (Cy (ab_7 (cw_5 zr)) rfl am4 PyProof.Rows.boot_max (Ae Au (Ae (Ad 3) Al))))) Al))) (Ae (Ad 5) Al))) Al))⟩)))))))
variable(aw9:mg "int" =none)
def co_9(F:Fun K "_law_key" "_law_key" (Aw 77) f fd):FnX P w K mg base true 1 f fd ["_law_cell_here"] (Bh K 1 q_0):=
 Bl (N:=["_law_cell_here","_law_signs","_law_rest","_law_found","_law_size","_law_k"]) F λzr zu hu nd zv=>(Ar (Bk (i:=1) [] Gc nd)
  (Ar (Bk (i:=2) [0] (Ay t_6 (Ad 0) Au) nd)
  (Ar (Cn [0] (Cl (Ga hu) (Ay Ez (Ad 0) Au) Au (Cp _))
   (Aq (Bj [2] (Ay Ez (Ad 2) (Ay dp_1 Au Au))))
   Ct)
  (Ar (Cn [0] (Cl (Ga hu) (Ay Ez (Ad 0) Au) Au (Cp _))
   (Aq (Bj [2] (Ay Ez (Ad 2) Au)))
   Ct)
  (Ar (Bk (i:=3) [] Gc nd)
  (Ar (Bk (i:=4) [2] (Ay Ez (Ad 2) Au) nd)
  (Ar (Gq [4] Fv zr (i_5 j6 (Ae (Ad 4) Al)) (r_7 (i:=5) nd)
   (Ar (Bk (i:=2) [2,5] (Ay t_6 (Ad 2) (t_5 (Gg (Ae Au (Ae Au Al))) (x_5 ck_6 rfl aw9 PyProof.Rows.boot_int (Ae (ao_2 bs_5 (Ad 5) Au (Cp _)) Al)))) nd)
  (Aq (Bk (i:=3) [1,2,3] (Ay Cz (Ad 3) (t_5 (Ad 1) (Ay Ez (Ad 2) Au))) nd))))
  (Aq (r_6 3)))))))))
variable(af6:az_0 P w K mg base)(aa0:bq_5 P w K mg base)
def ci_2(F:Fun K "_law_keys" "_law_keys" (Aw 80) f fd):FnX P w K mg base true 4 f fd Lp (Bh K 3 u_9):=
 Bl (N:=["_law_script","_law_start","_law_most","_law_found","_law_cell_here","_law_key_here"]) F λzr zu hu nd zv=>(Ar (Bk (i:=3) [] (Gg Al) nd)
  (Ar (Gq [0,1,2] Fv zr (t_9 (Ax zu zv af6 (Ae (Ad 0) (Ae (Ad 1) (Ae (Ad 2) Al))))) (r_7 (i:=4) nd)
   (Ar (Bk (i:=5) [4] (Ax zu zv aa0 (Ae (Ad 4) Al)) nd)
  (Aq (Cn [3,5] (Cl au_1 (Ad 5) (Ad 3) (by with_unfolding_all rfl))
   (Aq (bd_8 (i:=3) (Ad 5)))
   Ct))))
  (Ar (Cn [3] (Cl (Ga hu) (Ad 3) (Gg Al) (Cp _))
   (Aq (Bk (i:=3) [0] (Gg (Ae (Ax zu zv aa0 (Ae (Ay t_6 (Ax zu zv o9 (Ae (Ad 0) (Ae Au Al))) Au) Al)) Al)) nd))
   Ct)
  (Aq (r_6 3)))))
def aw_2(F:Fun K "_law_strangers" "_law_strangers" (Aw 81) f fd):FnX P w K mg base true 3 f fd ["_law_script","_law_keys_here"] (Bh K 2 i_6):=
 Bl (N:=["_law_script","_law_keys_here","_law_found","_law_k","_law_key_here"]) F λzr zu hu nd zv=>(Ar (Bk (i:=2) [] (Gg Al) nd)
  (Ar (Gq [] Fv zr (i_5 j6 (Ae Au Al)) (r_7 (i:=3) nd)
   (Ar (Bk (i:=4) [0,3] (Ax zu zv aa0 (Ae (Ax zu zv y2 (Ae (Ax zu zv l9 (Ae (Ax zu zv p9 (Ae (Ad 0) (Ae Au Al))) (Ae (Ay Cz Au (Ad 3)) Al))) Al)) Al)) nd)
  (Aq (Cn [1,4] (Cl au_1 (Ad 4) (Ad 1) (by with_unfolding_all rfl))
   (Aq (bd_8 (i:=2) (Ad 4)))
   Ct))))
  (Aq (r_6 2))))
variable(bb5:mg "all" =none){aw1:Tok}(ae0:mg "MOST_SIGNS" =some (.int 11 aw1)){bb7:Tok}(ak8:mg "SIGNS" =some (.str "abcdefghijklmnopqrstuvwxyz0123456789-_ " bb7))
def bi_2(F:Fun K "is_key_text" "is_key_text" (Aw 26) f fd):FnX P w K mg base true 1 f fd ["text"] (Bh K 1 q_7):=
 Bl (N:=["text"]) F λzr zu hu nd zv=>(Aq (Bj [0] (ck_4 (ao_2 bs_4 (Cy Er rfl j8 PySem.boot_len (Ae (Ad 0) Al)) (ad_8 rfl ae0) (Cp _)) (ck_3 (Cy (cw_9 zr) rfl bb5 PyProof.Rows.boot_all (Ae (l_2 (N':=["text","sign"]) zr (t_9 (Ad 0)) rfl (by rfl') rfl (λC s0 H0 fp pn=>⟨(Gn (i:=1)),p_3,(ao_2 de_0 (Ad 1) (cq_3 rfl ak8) (by with_unfolding_all rfl))⟩)) Al))))))
variable(ab5:an_1 P w K mg base)(j4:mg "isinstance" =none)(at9:mg "bool" =none)(as8:mg "str" =none)(af7:KitT K "bool")(au7:KitT K "int")(am5:KitT K "str"){al3:Tok}(u6:mg "GREATEST_NUMBER" =some (.int 999999999999999999 al3))
def da_1(F:Fun K "is_key" "is_key" (Aw 27) f fd):FnX P w K mg base true 2 f fd ["thing"] (Bh K 1 x_9):=
 Bl (N:=["thing"]) F λzr zu hu nd zv=>(Ar (Cn [0] (j_8 (be_3 af7 (Ad 0) j4 at9 bn_1))
   (Aq (Bj [] ax_0))
   Ct)
  (Ar (Cn [0] (j_8 (be_3 au7 (Ad 0) j4 aw9 PyProof.Rows.boot_int))
   (Aq (Bj [0] (bz_6 bs_4 bs_4 Au (Ad 0) (ad_8 rfl u6))))
   Ct)
  (Aq (Bj [0] (ck_4 (be_3 am5 (Ad 0) j4 as8 PyProof.Rows.boot_str) (ck_3 (Ax zu zv ab5 (Ae (Ad 0) Al))))))))
variable(ag2:ch_6 P w K mg base)(k8:mg "enumerate" =none){ah3:Addr}(am2:XC P w K mg base "NoKey" "at" ah3)
def aw_3(F:Fun K "look_each_key" "look_each_key" (Aw 32) f fd):FnX P w K mg base true 3 f fd ["keys"] (Bh K 1 i_7):=
 Bl (N:=["keys","place","key"]) F λzr zu hu nd zv=>(Aq (Gq [0] Fv zr (ak_4 k8 (Ad 0)) (ah_8 (i:=1) (j:=2) zr nd)
   (Aq (Cn [2] (bd_3 (j_8 (Ax zu zv ag2 (Ae (Ad 2) Al))))
   (Aq (v_6 [1] am2 (RoomC.mono zu (by decide)) v_2 (Ad 1)))
   Ct))))
variable{ah6:Addr}(av1:XC P w K mg base "Twice" "at" ah6)
def bi_3(F:Fun K "look_unlike" "look_unlike" (Aw 33) f fd):FnX P w K mg base true 3 f fd ["keys"] (Bh K 1 q_8):=
 Bl (N:=["keys","seen","place","key"]) F λzr zu hu nd zv=>(Ar (Bk (i:=1) [] bb_2 nd)
  (Aq (Gq [0] Fv zr (ak_4 k8 (Ad 0)) (ah_8 (i:=2) (j:=3) zr nd)
   (Ar (Cn [1,3] (Cl (ec_0 hu) (Ad 3) (Ad 1) (by with_unfolding_all rfl))
   (Aq (v_6 [2] av1 (RoomC.mono zu (by decide)) v_2 (Ad 2)))
   Ct)
  (Aq (bt_1 (i:=1) [] hu ax_0 (Ad 3)))))))
variable(l2:ag_4 P w K mg base)(ac2:an_2 P w K mg base){ac8:Addr}(ao3:XC0 K mg "NoKeys" ac8){aw6:Tok}(ag1:mg "MOST_KEYS" =some (.int 200 aw6))
def bx_9(F:Fun K "look_keys" "look_keys" (Aw 34) f fd):FnX P w K mg base true 4 f fd ["keys"] (Bh K 1 j_1):=
 Bl (N:=["keys"]) F λzr zu hu nd zv=>(Ar (Cn [0] (td_w (bz_7 (Cl (Ga hu) (Cy Er rfl j8 PySem.boot_len (Ae (Ad 0) Al)) Au (Cp _)) (bd_2 (Cl bs_5 (Cy Er rfl j8 PySem.boot_len (Ae (Ad 0) Al)) (ad_8 rfl ag1) (Cp _)))))
   (Aq (bo_1 ao3 (RoomC.mono zu (by decide)) v_2))
   Ct)
  (Ar (ak_3 [0] (Ax zu zv l2 (Ae (Ad 0) Al)))
  (Ar (ak_3 [0] (Ax zu zv ac2 (Ae (Ad 0) Al)))
  (Aq (Bj [0] (Cy Er rfl j8 PySem.boot_len (Ae (Ad 0) Al)))))))
def by_0(F:Fun K "part_size" "part_size" (Aw 44) f fd):FnX P w K mg base true 1 f fd ["many","kind"] (Bh K 2 i_4):=
 Bl (N:=["many","kind"]) F λzr zu hu nd zv=>(Ar (Cn [1] (Cl ao_5 (Ad 1) Au (Cp _))
   (Aq (Bj [0] (Ay Cz (Ay Cz (Ad 0) (Ay t_6 (Ad 0) Au)) Au)))
   Ct)
  (Aq (Bj [0] (Ay Cz (Ay t_6 (Ay Eu Au (Ad 0)) Au) Au))))
def dm_1(F:Fun K "worth" "worth" (Aw 28) f fd):FnX P w K mg base true 1 f fd ["text"] (Bh K 1 ar_6):=
 Bl (N:=["text","total","sign"]) F λzr zu hu nd zv=>(Ar (Bk (i:=1) [] Au nd)
  (Ar (Gq [0] Fv zr (t_9 (Ad 0)) (r_7 (i:=2) nd)
   (Aq (Bk (i:=1) [1,2] (Ay Cz (Ay Cz (Ay Eu Au (Ad 1)) (bb_0 PySem.F.plainAttrs_str PySem.F.slot_str_find PySem.F.type_str_find df_0 (cq_3 rfl ak8) (Ae (Ad 2) Al))) Au) nd)))
  (Aq (r_6 1))))
variable(av7:ct_8 P w K mg base)
def dm_2(F:Fun K "stamp" "stamp" (Aw 29) f fd):FnX P w K mg base true 3 f fd ["key"] (Bh K 1 ae_0):=
 Bl (N:=["key"]) F λzr zu hu nd zv=>(Ar (Cn [0] (bd_3 (j_8 (Ax zu zv ag2 (Ae (Ad 0) Al))))
   (Aq (v_6 [] am2 (RoomC.mono zu (by decide)) v_2 Au))
   Ct)
  (Ar (Cn [0] (j_8 (be_3 am5 (Ad 0) j4 as8 PyProof.Rows.boot_str))
   (Aq (Bj [0] (Ay Cz (Ay Eu Au (Ax zu zv av7 (Ae (Ad 0) Al))) Au)))
   Ct)
  (Aq (Bj [0] (Ay Eu Au (Ad 0))))))
variable{bc1:Tok}(am6:mg "PRIME" =some (.int 2305843009213693951 bc1))
def dm_3(F:Fun K "mixed" "mixed" (Aw 30) f fd):FnX P w K mg base true 1 f fd ["number","salt","size"] (Bh K 3 ak_8):=
 Bl (N:=["number","salt","size","factor","shift","first"]) F λzr zu hu nd zv=>(Ar (Cn [2] (Cl (Ga hu) (Ad 2) Au (Cp _))
   (Aq (Bj [] Au))
   Ct)
  (Ar (Bk (i:=3) [1] (Ay Cz Au (Ay Ez (Ay Cz (Ay Eu Au (Ad 1)) Au) (Ay aq_7 (ad_8 rfl am6) Au))) nd)
  (Ar (Bk (i:=4) [1] (Ay Ez (Ay Cz (Ay Eu (Ay Eu Au (Ad 1)) (Ad 1)) (Ay Eu Au (Ad 1))) (ad_8 rfl am6)) nd)
  (Ar (Bk (i:=5) [0,3,4] (Ay Ez (Ay Cz (Ay Eu (Ad 3) (Ad 0)) (Ad 4)) (ad_8 rfl am6)) nd)
  (Aq (Bj [2,5] (Ay Ez (Ay Cz (Ad 5) (Ay t_6 (Ad 5) Au)) (Ad 2))))))))
variable(al8:ct_9 P w K mg base)(al9:cu_0 P w K mg base)(av0:mg "tuple" =none)
def by_1(F:Fun K "places_of" "places_of" (Aw 45) f fd):FnX P w K mg base true 4 f fd ["key","salt","kind","part"] (Bh K 4 f_3):=
 Bl (N:=["key","salt","kind","part","number"]) F λzr zu hu nd zv=>(Ar (Bk (i:=4) [0] (Ax zu zv al8 (Ae (Ad 0) Al)) nd)
  (Aq (Bj [1,2,3,4] (x_5 ck_8 rfl av0 PyProof.Rows.boot_tuple (Ae (l_2 (N':=["key","salt","kind","part","number","turn"]) zr (i_5 j6 (Ae (Ad 2) Al)) rfl (by rfl') rfl (λC s0 H0 fp pn=>⟨(Gn (i:=5)),p_3,(Ay Cz (Ay Eu (Ad 5) (Ad 3)) (Ax (g_8 zu) l_1 al9 (Ae (Ad 4) (Ae (Ay Cz (Ay Eu Au (Ad 1)) (Ad 5)) (Ae (Ad 3) Al)))))⟩)) Al)))))
variable(l6:az_2 P w K mg base)(p7:az_1 P w K mg base)(x4:az_3 P w K mg base)
def ci_3(F:Fun K "edges_of" "edges_of" (Aw 46) f fd):FnX P w K mg base true 5 f fd Lm (Bh K 3 v_0):=
 Bl (N:=["keys","salt","kind","part"]) F λzr zu hu nd zv=>(Ar (Bk (i:=3) [0,2] (Ax zu zv l6 (Ae (Ax zu zv p7 (Ae (Ad 0) Al)) (Ae (Ad 2) Al))) nd)
  (Aq (Bj [0,1,2,3] (l_2 (N':=["keys","salt","kind","part","key"]) zr (t_9 (Ad 0)) rfl (by rfl') rfl (λC s0 H0 fp pn=>⟨(Gn (i:=4)),p_3,(Ax (g_8 zu) l_1 x4 (Ae (Ad 4) (Ae (Ad 1) (Ae (Ad 2) (Ae (Ad 3) Al)))))⟩)))))
def bi_4(F:Fun K "standing_at" "standing_at" (Aw 40) f fd):FnX P w K mg base true 1 f fd ["edges"] (Bh K 1 q_9):=
 Bl (N:=["edges","standing","number","edge","place"]) F λzr zu hu nd zv=>(Ar (Bk (i:=1) [] bb_2 nd)
  (Ar (Gq [0] Fv zr (ak_4 k8 (Ad 0)) (ah_8 (i:=2) (j:=3) zr nd)
   (Aq (Gq [3] Fv zr (t_9 (Ad 3)) (r_7 (i:=4) nd)
   (Ar (Cn [1,4] (Cl (bn_5 hu) (Ad 4) (Ad 1) (by with_unfolding_all rfl))
   (Aq (dq_8 (i:=1) hu (Ad 4)))
   Ct)
  (Aq (dq_6 (i:=1) hu ax_0 (Ad 4) (Ad 2)))))))
  (Aq (r_6 1))))
abbrev L15:List Str:=["number","edge","standing"]
def by_2(F:Fun K "take_away" "take_away" (Aw 41) f fd):FnX P w K mg base true 1 f fd L15 (spM K 2 p_5):=
 ej_0 (n:=2) (N:=["number","edge","standing","place"]) F (by decide) (by decide) λzr zu hu nd zv=>(Aq (Gq [1] Fv zr (t_9 (Ad 1)) (r_7 (i:=3) nd)
   (Aq (dq_7 (i:=2) hu (Ad 3) (Ad 0)))))
variable(ac3:an_3 P w K mg base)(af3:FnMd P w K mg base true "take_away" 1 2 L15 p_5)(ae4:mg "list" =none)
def da_2(F:Fun K "peeled" "peeled" (Aw 42) f fd):FnX P w K mg base true 2 f fd ["edges","size"] (Bh K 2 ar_7):=
 Bl (N:=["edges","size","standing","waiting","order","taken","left","place","number"]) F λzr zu hu nd zv=>(Ar (Bk (i:=2) [0] (Ax zu zv ac3 (Ae (Ad 0) Al)) nd)
  (Ar (dr_2 (i:=3) (x_5 (cl_7 zr) rfl ae4 PyProof.Rows.boot_list (Ae (Ad 2) Al)) nd)
  (Ar (Bk (i:=4) [] (Gg Al) nd)
  (Ar (Bk (i:=5) [] bb_2 nd)
  (Ar (ca_8 [3] 3000 Fv (Cl bs_5 (Cy Er rfl j8 PySem.boot_len (Ae (Ad 3) Al)) Au (Cp _))
   (Ar (dr_1 (i:=7) (j:=3) nd)
  (Aq (Cn [2,7] (Cl (Ga hu) (Cy cx_2 rfl j8 PySem.boot_len (Ae (bt_0 hu (Ad 2) (Ad 7)) Al)) Au (Cp _))
   (Ar (Bk (i:=8) [2,7] (Cy (cx_4 zr) rfl ah1 PyProof.Rows.boot_min (Ae (bt_0 hu (Ad 2) (Ad 7)) Al)) nd)
  (Ar (bd_8 (i:=4) (dd_1 (Ae (Ad 8) (Ae (Ad 7) Al))))
  (Ar (bt_1 (i:=5) [] hu ax_0 (Ad 8))
  (Ar (dg_3 (i:=2) zu zv af3 (Ad 8) (t_5 (Ad 0) (Ad 8)))
  (Aq (ec_3 (i:=3) (t_5 (Ad 0) (Ad 8))))))))
   Ct))))
  (Ar (bs_8 (i:=6) [0,5] (N':=["edges","size","standing","waiting","order","taken","left","place","?8","number"]) zr (i_5 j6 (Ae (Cy Er rfl j8 PySem.boot_len (Ae (Ad 0) Al)) Al)) rfl (by rfl') rfl (λC s0 H0 fp pn=>⟨(Gn (i:=9)),(cl_3 (Cl (bn_5 hu) (Ad 9) (Ad 5) (by with_unfolding_all rfl))),(Ad 9)⟩) nd)
  (Aq (dr_4 (i:=4) (j:=6)))))))))
variable(aa6:bh_5 P w K mg base)(as1:ch_7 P w K mg base)
def dv_5(F:Fun K "fate" "fate" (Aw 47) f fd):FnX P w K mg base true 6 f fd Lm (Bh K 3 Gf):=
 Bl (N:=["keys","salt","kind","edges"]) F λzr zu hu nd zv=>(Ar (Bk (i:=3) [0,1,2] (Ax zu zv aa6 (Ae (Ad 0) (Ae (Ad 1) (Ae (Ad 2) Al)))) nd)
  (Aq (Bj [0,2,3] (Ax zu zv as1 (Ae (Ad 3) (Ae (Ay Eu (Ad 2) (Ax zu zv l6 (Ae (Cy Er rfl j8 PySem.boot_len (Ae (Ad 0) Al)) (Ae (Ad 2) Al)))) Al))))))
variable(aj7:dl_9 P w K mg base)
def ci_4(F:Fun K "succeeds" "succeeds" (Aw 48) f fd):FnX P w K mg base true 7 f fd Lm (Bh K 3 g_3):=
 Bl (N:=["keys","salt","kind","left"]) F λzr zu hu nd zv=>(Ar (Bk (i:=3) [0,1,2] (t_5 (Ax zu zv aj7 (Ae (Ad 0) (Ae (Ad 1) (Ae (Ad 2) Al)))) Au) nd)
  (Aq (Bj [3] (ao_2 (Ga hu) (Cy Er rfl j8 PySem.boot_len (Ae (Ad 3) Al)) Au (Cp _)))))
variable(aj4:bh_6 P w K mg base){o5:Addr}(as9:XC0 K mg "NoTry" o5)
def by_3(F:Fun K "first_try" "first_try" (Aw 49) f fd):FnX P w K mg base true 8 f fd ["keys","kind","most"] (Bh K 3 Df):=
 Bl (N:=["keys","kind","most","salt"]) F λzr zu hu nd zv=>(Ar (ak_3 [0] (Ax zu zv p7 (Ae (Ad 0) Al)))
  (Ar (Gq [2] Fv zr (i_5 j6 (Ae (Ad 2) Al)) (r_7 (i:=3) nd)
   (Aq (Cn [0,1,3] (j_8 (Ax zu zv aj4 (Ae (Ad 0) (Ae (Ad 3) (Ae (Ad 1) Al)))))
   (Aq (r_6 3))
   Ct)))
  (Aq (bo_1 as9 (RoomC.mono zu (by decide)) v_2))))
def aw_4(F:Fun K "chosen_places" "chosen_places" (Aw 55) f fd):FnX P w K mg base true 7 f fd Lm (Bh K 3 o_5):=
 Bl (N:=["keys","salt","kind","chosen","number","place"]) F λzr zu hu nd zv=>(Ar (Bk (i:=3) [] bb_2 nd)
  (Ar (Gq [0,1,2] Fv zr (t_9 (t_5 (Ax zu zv aj7 (Ae (Ad 0) (Ae (Ad 1) (Ae (Ad 2) Al)))) Au)) (ah_8 (i:=4) (j:=5) zr nd)
   (Aq (bt_1 (i:=3) [5] hu (Ad 5) (Ad 4))))
  (Aq (Bj [0,3] (l_2 (N':=["keys","salt","kind","chosen","?4","place","number"]) zr (i_5 j6 (Ae (Cy Er rfl j8 PySem.boot_len (Ae (Ad 0) Al)) Al)) rfl (by rfl') rfl (λC s0 H0 fp pn=>⟨(Gn (i:=6)),p_3,(bt_0 hu (Ad 3) (Ad 6))⟩))))))
def ci_5(F:Fun K "is_below" "is_below" (Aw 9) f fd):FnX P w K mg base true 1 f fd ["number","limit"] (Bh K 2 m_1):=
 Bl (N:=["number","limit"]) F λzr zu hu nd zv=>(Aq (Bj [0,1] (ck_4 (ea_4 (be_3 af7 (Ad 0) j4 at9 bn_1)) (ck_3 (bz_6 bs_4 ao_5 Au (Ad 0) (Ad 1))))))
def by_4(F:Fun K "remainder" "remainder" (Aw 36) f fd):FnX P w K mg base true 1 f fd L35 (Bh K 2 t_0):=
 Bl (N:= L35) F λzr zu hu nd zv=>(Aq (Bj [0,1] (cq_5 (Cl (Ga hu) (Ad 1) Au (Cp _)) Au (Ay Ez (Ad 0) (Ad 1)))))
variable(o7:bh_7 P w K mg base)(x5:az_5 P w K mg base)(ba4:mg "sum" =none)
def da_3(F:Fun K "summed" "summed" (Aw 37) f fd):FnX P w K mg base true 2 f fd ["table","places","modulus"] (Bh K 3 p_6):=
 Bl (N:=["table","places","modulus","found"]) F λzr zu hu nd zv=>(Ar (bs_8 (i:=3) [0,1] (N':=["table","places","modulus","found","place"]) zr (t_9 (Ad 1)) rfl (by rfl') rfl (λC s0 H0 fp pn=>⟨(Gn (i:=4)),(cl_3 (j_8 (Ax (g_8 zu) l_1 o7 (Ae (Ad 4) (Ae (Cy Er rfl j8 PySem.boot_len (Ae (Ad 0) Al)) Al))))),(t_5 (Ad 0) (Ad 4))⟩) nd)
  (Aq (Bj [2,3] (Ax zu zv x5 (Ae (Cy (cx_0 zr) rfl ba4 PyProof.Rows.boot_sum (Ae (Ad 3) Al)) (Ae (Ad 2) Al))))))
variable(ah0:ch_8 P w K mg base)(ak2:mg "reversed" =none)
def da_4(F:Fun K "filled" "filled" (Aw 38) f fd):FnX P w K mg base true 3 f fd L11 (Bh K 5 ai_7):=
 Bl (N:=["edges","size","order","wanted","modulus","table","number","place","lacking"]) F λzr zu hu nd zv=>(Ar (Bk (i:=5) [1] (df_8 (Ae Au Al) (Ad 1)) nd)
  (Ar (Gq [2] Fv zr (eb_9 ak2 (Ad 2)) (ah_8 (i:=6) (j:=7) zr nd)
   (Ar (Bk (i:=8) [0,3,4,5,6] (Ay aq_7 (t_5 (Ad 3) (Ad 6)) (Ax zu zv ah0 (Ae (Ad 5) (Ae (t_5 (Ad 0) (Ad 6)) (Ae (Ad 4) Al))))) nd)
  (Aq (Cn [1,7] (j_8 (Ax zu zv o7 (Ae (Ad 7) (Ae (Ad 1) Al))))
   (Aq (dq_5 (i:=5) [4,8] (Ax zu zv x5 (Ae (Ad 8) (Ae (Ad 4) Al))) (Ad 7)))
   Ct))))
  (Aq (r_6 5))))
variable(u4:OFld K ["Table"] "by_salt")(z8:OFld K ["Table"] "kind")(am7:OFld K ["Table"] "part")(aa7:OFld K ["Table"] "modulus")(v5:OFld K ["Table"] "listed")
abbrev L10:List Str:=["self","salt","kind","part","modulus","listed"]
def at_4(F:Fun K "__init__" "Table.__init__" (Ba 51 0) f fd){CI:Addr}(hCI:ClsAt K "Table" CI):FnX P w K mg base true 1 f fd L10 (spI K CI 5 z_4):=
 Ft (n:=5) (cn:= "Table") (N:= L10) F hCI (by decide) (by decide) λzr zu hu nd zv=>(Ar (Ej (i:=0) [1] u4 (Ad 1))
  (Ar (Ej (i:=0) [2] z8 (Ad 2))
  (Ar (Ej (i:=0) [3] am7 (Ad 3))
  (Ar (Ej (i:=0) [4] aa7 (Ad 4))
  (Aq (Ej (i:=0) [5] v5 (Ad 5)))))))
variable(aq7:ch_9 P w K mg base)(aa8:Ew P w K mg base true "Table" 1 5 z_4)
def by_5(F:Fun K "table_for" "table_for" (Aw 52) f fd):FnX P w K mg base true 7 f fd L14 (Bh K 5 h_1):=
 Bl (N:=["keys","salt","kind","modulus","wanted","part","edges","order"]) F λzr zu hu nd zv=>(Ar (Bk (i:=5) [0,2] (Ax zu zv l6 (Ae (Cy Er rfl j8 PySem.boot_len (Ae (Ad 0) Al)) (Ae (Ad 2) Al))) nd)
  (Ar (Bk (i:=6) [0,1,2] (Ax zu zv aa6 (Ae (Ad 0) (Ae (Ad 1) (Ae (Ad 2) Al)))) nd)
  (Ar (Bk (i:=7) [0,1,2] (t_5 (Ax zu zv aj7 (Ae (Ad 0) (Ae (Ad 1) (Ae (Ad 2) Al)))) Au) nd)
  (Aq (Bj [1,2,3,4,5,6,7] (r_8 zu zv aa8 (Ae (Ad 1) (Ae (Ad 2) (Ae (Ad 5) (Ae (Ad 3) (Ae (Ax zu zv aq7 (Ae (Ad 6) (Ae (Ay Eu (Ad 2) (Ad 5)) (Ae (Ad 7) (Ae (Ad 4) (Ae (Ad 3) Al)))))) Al)))))))))))
def aw_5(F:Fun K "row_with_ones" "row_with_ones" (Aw 56) f fd):FnX P w K mg base true 1 f fd ["places","size"] (Bh K 2 k_9):=
 Bl (N:=["places","size"]) F λzr zu hu nd zv=>(Aq (Bj [0,1] (bb_0 PySem.F.plainAttrs_str PySem.F.slot_str_join PySem.F.type_str_join cb_7 Gc (Ae (l_2 (N':=["places","size","place"]) zr (i_5 j6 (Ae (Ad 1) Al)) rfl (by rfl') rfl (λC s0 H0 fp pn=>⟨(Gn (i:=2)),p_3,(cq_5 (Cl de_0 (Ad 2) (Ad 0) (by with_unfolding_all rfl)) Gc Gc)⟩)) Al))))
variable(d5:OFld K La "how_many")
abbrev L22:List Str:=["self","how_many"]
def ab_3(F:Fun K "__init__" "House.__init__" (Ba 54 0) f fd){CI:Addr}(hCI:ClsAt K "Peeled" CI):FnX P w K mg base true 1 f fd L22 (spI K CI 1 f_6):=
 Ft (n:=1) (cn:= "Peeled") (N:= L22) F hCI (by decide) (by decide) λzr zu hu nd zv=>(Aq (Ej (i:=0) [1] d5 (Ad 1)))
variable(n6:az_4 P w K mg base)(y3:ag_5 P w K mg base)(m9:az_6 P w K mg base)(y4:ag_6 P w K mg base)(n8:MakB P w K mg base true "House" "Peeled" 1 1 f_6)(b6:OFld K La "own_table")(l4:OFld K Lj "used_row")
def ap_8(F:Fun K "__init__" "Peeled.__init__" (Ba 57 0) f fd){CI:Addr}(hCI:ClsAt K "Peeled" CI):FnX P w K mg base true 9 f fd ["self","keys","kind","most"] (spI K CI 3 v_7):=
 Ft (n:=3) (cn:= "Peeled") (N:=["self","keys","kind","most","salt","part","chosen"]) F hCI (by decide) (by decide) λzr zu hu nd zv=>(Ar (Bk (i:=4) [1,2,3] (Ax zu zv n6 (Ae (Ad 1) (Ae (Ad 2) (Ae (Ad 3) Al)))) nd)
  (Ar (ce_6 (i:=0) [1] zu zv n8 (Cy Er rfl j8 PySem.boot_len (Ae (Ad 1) Al)))
  (Ar (Bk (i:=5) [1,2] (Ax zu zv l6 (Ae (Cy Er rfl j8 PySem.boot_len (Ae (Ad 1) Al)) (Ae (Ad 2) Al))) nd)
  (Ar (Bk (i:=6) [1,2,4] (Ax zu zv y3 (Ae (Ad 1) (Ae (Ad 4) (Ae (Ad 2) Al)))) nd)
  (Ar (Ej (i:=0) [1,2,4,5,6] b6 (Ax zu zv m9 (Ae (Ad 1) (Ae (Ad 4) (Ae (Ad 2) (Ae (Ad 2) (Ae (l_2 (N':=["self","keys","kind","most","salt","part","chosen","place"]) zr (t_9 (Ad 6)) rfl (by rfl') rfl (λC s0 H0 fp pn=>⟨(Gn (i:=7)),p_3,(Ay t_6 (Ad 7) (Ad 5))⟩)) Al)))))))
  (Aq (Ej (i:=0) [2,5,6] l4 (Ax zu zv y4 (Ae (Ad 6) (Ae (Ay Eu (Ad 2) (Ad 5)) Al))))))))))
def z_0(F:Fun K "__init__" "House.__init__" (Ba 54 0) f fd){CI:Addr}(hCI:ClsAt K "Ordered" CI):FnX P w K mg base true 1 f fd L22 (spI K CI 1 e_9):=
 Ft (n:=1) (cn:= "Ordered") (N:= L22) F hCI (by decide) (by decide) λzr zu hu nd zv=>(Aq (Ej (i:=0) [1] d5 (Ad 1)))
variable(m8:MakB P w K mg base true "House" "Ordered" 1 1 e_9)
def al_8(F:Fun K "__init__" "Ordered.__init__" (Ba 58 0) f fd){CI:Addr}(hCI:ClsAt K "Ordered" CI):FnX P w K mg base true 9 f fd ["self","keys","kind","most"] (spI K CI 3 t_1):=
 Ft (n:=3) (cn:= "Ordered") (N:=["self","keys","kind","most","salt"]) F hCI (by decide) (by decide) λzr zu hu nd zv=>(Ar (Bk (i:=4) [1,2,3] (Ax zu zv n6 (Ae (Ad 1) (Ae (Ad 2) (Ae (Ad 3) Al)))) nd)
  (Ar (ce_6 (i:=0) [1] zu zv m8 (Cy Er rfl j8 PySem.boot_len (Ae (Ad 1) Al)))
  (Aq (Ej (i:=0) [1,2,4] b6 (Ax zu zv m9 (Ae (Ad 1) (Ae (Ad 4) (Ae (Ad 2) (Ae (Cy Er rfl j8 PySem.boot_len (Ae (Ad 1) Al)) (Ae (bj_5 zr ae4 j6 (Ae (Cy Er rfl j8 PySem.boot_len (Ae (Ad 1) Al)) Al)) Al))))))))))
def da_5(F:Fun K "two_to" "two_to" (Aw 10) f fd):FnX P w K mg base true 1 f fd ["width"] (Bh K 1 n_1):=
 Bl (N:=["width","power","turn"]) F λzr zu hu nd zv=>(Ar (Bk (i:=1) [] Au nd)
  (Ar (Gq [0] Fv zr (i_5 j6 (Ae (Ad 0) Al)) (r_7 (i:=2) nd)
   (Aq (Bk (i:=1) [1] (Ay Eu (Ad 1) Au) nd)))
  (Aq (r_6 1))))
variable{aa1:Addr}(ah4:XC P w K mg base "NoValue" "at" aa1)
def bi_5(F:Fun K "look_values" "look_values" (Aw 60) f fd):FnX P w K mg base true 3 f fd ["values","many","limit"] (Bh K 3 j_2):=
 Bl (N:=["values","many","limit","place","value"]) F λzr zu hu nd zv=>(Ar (Gq [0] Fv zr (ak_4 k8 (Ad 0)) (ah_8 (i:=3) (j:=4) zr nd)
   (Aq (Cn [1,2,3,4] (td_w (bz_7 (Cl eb_0 (Ad 3) (Ad 1) (Cp _)) (bd_2 (bd_3 (j_8 (Ax zu zv o7 (Ae (Ad 4) (Ae (Ad 2) Al))))))))
   (Aq (v_6 [3] ah4 (RoomC.mono zu (by decide)) v_2 (Ad 3)))
   Ct)))
  (Aq (Cn [0,1] (Cl ao_5 (Cy Er rfl j8 PySem.boot_len (Ae (Ad 0) Al)) (Ad 1) (Cp _))
   (Aq (v_6 [0] ah4 (RoomC.mono zu (by decide)) v_2 (Cy Er rfl j8 PySem.boot_len (Ae (Ad 0) Al))))
   Ct)))
variable(p6:ci_0 P w K mg base)(ac4:an_4 P w K mg base)(m6:OFld K Lb "width")
def aw_6(F:Fun K "__init__" "Kept.__init__" (Ba 61 0) f fd){CI:Addr}(hCI:ClsAt K "Kept" CI):FnX P w K mg base true 9 f fd ["self","keys","values","width","kind","most"] (spI K CI 5 ai_8):=
 Ft (n:=5) (cn:= "Kept") (N:=["self","keys","values","width","kind","most","limit","salt"]) F hCI (by decide) (by decide) λzr zu hu nd zv=>(Ar (Bk (i:=6) [3] (Ax zu zv p6 (Ae (Ad 3) Al)) nd)
  (Ar (Ej (i:=0) [1] d5 (Ax zu zv p7 (Ae (Ad 1) Al)))
  (Ar (ak_3 [1,2,6] (Ax zu zv ac4 (Ae (Ad 2) (Ae (Cy Er rfl j8 PySem.boot_len (Ae (Ad 1) Al)) (Ae (Ad 6) Al)))))
  (Ar (Bk (i:=7) [1,4,5] (Ax zu zv n6 (Ae (Ad 1) (Ae (Ad 4) (Ae (Ad 5) Al)))) nd)
  (Ar (Ej (i:=0) [3] m6 (Ad 3))
  (Aq (Ej (i:=0) [1,2,4,6,7] b6 (Ax zu zv m9 (Ae (Ad 1) (Ae (Ad 7) (Ae (Ad 4) (Ae (Ad 6) (Ae (Ad 2) Al)))))))))))))
variable{ax0:Tok}(af8:mg "MARK_SALT" =some (.int 3 ax0))
def dv_6(F:Fun K "mark" "mark" (Aw 31) f fd):FnX P w K mg base true 4 f fd ["key","width"] (Bh K 2 ap_2):=
 Bl (N:=["key","width"]) F λzr zu hu nd zv=>(Aq (Bj [0,1] (Ax zu zv al9 (Ae (Ax zu zv al8 (Ae (Ad 0) Al)) (Ae (ad_8 rfl af8) (Ae (Ax zu zv p6 (Ae (Ad 1) Al)) Al))))))
variable(ao0:dm_0 P w K mg base)
def ap_9(F:Fun K "__init__" "Marked.__init__" (Ba 62 0) f fd){CI:Addr}(hCI:ClsAt K "Marked" CI):FnX P w K mg base true 9 f fd ["self","keys","width","kind","most"] (spI K CI 4 v_8):=
 Ft (n:=4) (cn:= "Marked") (N:=["self","keys","width","kind","most","salt"]) F hCI (by decide) (by decide) λzr zu hu nd zv=>(Ar (Bk (i:=5) [1,3,4] (Ax zu zv n6 (Ae (Ad 1) (Ae (Ad 3) (Ae (Ad 4) Al)))) nd)
  (Ar (Ej (i:=0) [1] d5 (Cy Er rfl j8 PySem.boot_len (Ae (Ad 1) Al)))
  (Ar (Ej (i:=0) [2] m6 (Ad 2))
  (Aq (Ej (i:=0) [1,2,3,5] b6 (Ax zu zv m9 (Ae (Ad 1) (Ae (Ad 5) (Ae (Ad 3) (Ae (Ax zu zv p6 (Ae (Ad 2) Al)) (Ae (l_2 (N':=["self","keys","width","kind","most","salt","key"]) zr (t_9 (Ad 1)) rfl (by rfl') rfl (λC s0 H0 fp pn=>⟨(Gn (i:=6)),p_3,(Ax (g_8 zu) l_1 ao0 (Ae (Ad 6) (Ae (Ad 2) Al)))⟩)) Al)))))))))))
variable(ao4:Ew P w K mg base true "Peeled" 9 3 v_7)(aj2:Ew P w K mg base true "Ordered" 9 3 t_1)(av8:Ew P w K mg base true "Kept" 9 5 ai_8)(an6:Ew P w K mg base true "Marked" 9 4 v_8)(ak9:mg "NoTry" =some (.ref o5))(at6:Catches K o5 L97)
def ci_6(F:Fun K "_law_made" "_law_made" (Aw 82) f fd):FnX P w K mg base true 11 f fd Lw (Bh K 5 s_5):=
 Bl (N:=["_law_form","_law_keys_here","_law_values","_law_width","_law_kind","_law_found"]) F λzr zu hu nd zv=>(Ar (Bk (i:=5) [] br_9 nd)
  (Ar (ds_7 nd rfl rfl (λzd W EXB lkB=>(Aq (Cn [0] (Cl (Ga hu) (Ad 0) Au (Cp _))
   (Aq (Bk (i:=5) [1,4] (r_8 (ar_4 zu) lkB ao4 (Ae (Ad 1) (Ae (Ad 4) (Ae Au Al)))) nd))
   (Aq (Cn [0] (Cl (Ga hu) (Ad 0) Au (Cp _))
   (Aq (Bk (i:=5) [1,4] (r_8 (ar_4 zu) lkB aj2 (Ae (Ad 1) (Ae (Ad 4) (Ae Au Al)))) nd))
   (Aq (Cn [0] (Cl (Ga hu) (Ad 0) Au (Cp _))
   (Aq (Bk (i:=5) [1,2,3,4] (r_8 (ar_4 zu) lkB av8 (Ae (Ad 1) (Ae (Ad 2) (Ae (Ad 3) (Ae (Ad 4) (Ae Au Al)))))) nd))
   (Aq (Bk (i:=5) [1,3,4] (r_8 (ar_4 zu) lkB an6 (Ae (Ad 1) (Ae (Ad 3) (Ae (Ad 4) (Ae Au Al))))) nd))))))))) (HOk3.bare ak9 at6 (λe=>(Aq (Bk (i:=5) [] br_9 nd))) .nil))
  (Aq (r_6 5))))
def bi_6(F:Fun K "ones_before" "ones_before" (Aw 17) f fd):FnX P w K mg base true 1 f fd ["bits","place"] (Bh K 2 o_9):=
 Bl (N:=["bits","place"]) F λzr zu hu nd zv=>(Aq (Bj [0,1] (bb_0 PySem.F.plainAttrs_str PySem.F.slot_str_count PySem.F.type_str_count cw_7 (cb_4 (Ad 0) dp_8 (bs_9 (Cy (ab_7 zr) rfl am4 PyProof.Rows.boot_max (Ae (Ad 1) (Ae Au Al))))) (Ae Gc Al))))
abbrev Lc:List Str:=["self","key"]
def ba_6(F:Fun K "places" "Table.places" (Ba 51 3) f fd):FnX P w K mg base true 5 f fd Lc (Bh K 2 d_7):=
 Bl (N:= Lc) F λzr zu hu nd zv=>(Aq (Bj [0,1] (Ax zu zv x4 (Ae (Ad 1) (Ae (Db u4 (Ad 0)) (Ae (Db z8 (Ad 0)) (Ae (Db am7 (Ad 0)) Al)))))))
variable(g7:MethT P w K mg base true 5 1 "places" [("Table",d_7)])
def ad_0(F:Fun K "places" "Peeled.places" (Ba 57 4) f fd):FnX P w K mg base true 6 f fd Lc (Bh K 2 b_5):=
 Bl (N:= Lc) F λzr zu hu nd zv=>(Aq (Bj [0,1] (k_2 g7 zu zv (Db b6 (Ad 0)) (Ae (Ad 1) Al))))
def bi_7(F:Fun K "total" "Table.total" (Ba 51 4) f fd):FnX P w K mg base true 6 f fd Lc (Bh K 2 c_9):=
 Bl (N:= Lc) F λzr zu hu nd zv=>(Aq (Bj [0,1] (Ax zu zv ah0 (Ae (Db v5 (Ad 0)) (Ae (k_2 g7 zu zv (Ad 0) (Ae (Ad 1) Al)) (Ae (Db aa7 (Ad 0)) Al))))))
variable(v9:an_5 P w K mg base)(k7:MethT P w K mg base true 6 1 "places" J15)(i9:MethT P w K mg base true 6 1 "total" [("Table",c_9)])
def w_8(F:Fun K "number_of" "Peeled.number_of" (Ba 57 5) f fd):FnX P w K mg base true 7 f fd Lc (Bh K 2 c_5):=
 Bl (N:=["self","key","choice"]) F λzr zu hu nd zv=>(Ar (Bk (i:=2) [0,1] (t_5 (k_2 k7 zu zv (Ad 0) (Ae (Ad 1) Al)) (k_2 i9 zu zv (Db b6 (Ad 0)) (Ae (Ad 1) Al))) nd)
  (Aq (Bj [0,2] (Ax zu zv v9 (Ae (Db l4 (Ad 0)) (Ae (Ad 2) Al))))))
def w_3(F:Fun K "number_of" "Ordered.number_of" (Ba 58 4) f fd):FnX P w K mg base true 7 f fd Lc (Bh K 2 c_1):=
 Bl (N:= Lc) F λzr zu hu nd zv=>(Aq (Bj [0,1] (k_2 i9 zu zv (Db b6 (Ad 0)) (Ae (Ad 1) Al))))
variable(c9:MethT P w K mg base true 7 1 "number_of" J12)
def u_6(F:Fun K "room" "House.room" (Ba 54 2) f fd):FnX P w K mg base true 8 f fd Lc (Bh K 2 a_8):=
 Bl (N:= Lc) F λzr zu hu nd zv=>(Aq (Bj [0,1] (Cy (au_2 zr) rfl ah1 PyProof.Rows.boot_min (Ae (k_2 c9 zu zv (Ad 0) (Ae (Ad 1) Al)) (Ae (Ay aq_7 (Db d5 (Ad 0)) Au) Al)))))
variable(c8:MethT P w K mg base true 8 1 "room" J10)
def s_1(F:Fun K "rooms" "House.rooms" (Ba 54 3) f fd):FnX P w K mg base true 9 f fd ["self","keys"] (Bh K 2 b_4):=
 Bl (N:=["self","keys"]) F λzr zu hu nd zv=>(Ar (ak_3 [1] (Ax zu zv l2 (Ae (Ad 1) Al)))
  (Aq (Bj [0,1] (l_2 (N':=["self","keys","key"]) zr (t_9 (Ad 1)) rfl (by rfl') rfl (λC s0 H0 fp pn=>⟨(Gn (i:=2)),p_3,(k_2 c8 (g_8 zu) l_1 (Ad 0) (Ae (Ad 2) Al))⟩)))))
def an_9(F:Fun K "value" "Kept.value" (Ba 61 5) f fd):FnX P w K mg base true 7 f fd Lc (Bh K 2 d_8):=
 Bl (N:= Lc) F λzr zu hu nd zv=>(Aq (Bj [0,1] (k_2 i9 zu zv (Db b6 (Ad 0)) (Ae (Ad 1) Al))))
def ag_8(F:Fun K "knows" "Marked.knows" (Ba 62 5) f fd):FnX P w K mg base true 7 f fd Lc (Bh K 2 e_5):=
 Bl (N:= Lc) F λzr zu hu nd zv=>(Aq (Bj [0,1] (ao_2 (Ga hu) (k_2 i9 zu zv (Db b6 (Ad 0)) (Ae (Ad 1) Al)) (Ax zu zv ao0 (Ae (Ad 1) (Ae (Db m6 (Ad 0)) Al))) (Cp _))))
variable(h9:MethT P w K mg base true 9 1 "rooms" J13)(n9:MethT P w K mg base true 7 1 "value" J17)(l7:MethT P w K mg base true 7 1 "knows" J16)
abbrev Ln:List Str:=["_law_house","_law_form","_law_keys_here","_law_key_here"]
def bi_8(F:Fun K "_law_answers" "_law_answers" (Aw 83) f fd):FnX P w K mg base true 10 f fd Lf (Bh K 3 h_5):=
 Bl (N:= Lf) F λzr zu hu nd zv=>(Ar (Cn [1] (Cl ao_5 (Ad 1) Au (Cp _))
   (Aq (Bj [0,2] (Ay Cz (l_2 (N':= Ln) zr (t_9 (Ad 2)) rfl (by rfl') rfl (λC s0 H0 fp pn=>⟨(Gn (i:=3)),p_3,(k_2 c8 (g_8 zu) l_1 (Ad 0) (Ae (Ad 3) Al))⟩)) (k_2 h9 zu zv (Ad 0) (Ae (x_5 ax_2 rfl ae4 PyProof.Rows.boot_list (Ae (Ad 2) Al)) Al)))))
   Ct)
  (Ar (Cn [1] (Cl (Ga hu) (Ad 1) Au (Cp _))
   (Aq (Bj [0,2] (l_2 (N':= Ln) zr (t_9 (Ad 2)) rfl (by rfl') rfl (λC s0 H0 fp pn=>⟨(Gn (i:=3)),p_3,(k_2 n9 (g_8 zu) l_1 (Ad 0) (Ae (Ad 3) Al))⟩))))
   Ct)
  (Aq (Bj [0,2] (l_2 (N':= Ln) zr (t_9 (Ad 2)) rfl (by rfl') rfl (λC s0 H0 fp pn=>⟨(Gn (i:=3)),p_3,(k_2 l7 (g_8 zu) l_1 (Ad 0) (Ae (Ad 3) Al))⟩))))))
def aa_0(F:Fun K "places" "Ordered.places" (Ba 58 3) f fd):FnX P w K mg base true 6 f fd Lc (Bh K 2 d_1):=
 Bl (N:= Lc) F λzr zu hu nd zv=>(Aq (Bj [0,1] (k_2 g7 zu zv (Db b6 (Ad 0)) (Ae (Ad 1) Al))))
def aj_8(F:Fun K "places" "Kept.places" (Ba 61 4) f fd):FnX P w K mg base true 6 f fd Lc (Bh K 2 f_0):=
 Bl (N:= Lc) F λzr zu hu nd zv=>(Aq (Bj [0,1] (k_2 g7 zu zv (Db b6 (Ad 0)) (Ae (Ad 1) Al))))
def ad_1(F:Fun K "places" "Marked.places" (Ba 62 4) f fd):FnX P w K mg base true 6 f fd Lc (Bh K 2 d_5):=
 Bl (N:= Lc) F λzr zu hu nd zv=>(Aq (Bj [0,1] (k_2 g7 zu zv (Db b6 (Ad 0)) (Ae (Ad 1) Al))))
def bi_9(F:Fun K "table" "Table.table" (Ba 51 2) f fd):FnX P w K mg base true 1 f fd ["self"] (Bh K 1 j_3):=
 Bl (N:=["self"]) F λzr zu hu nd zv=>(Aq (Bj [0] (x_5 ax_2 rfl ae4 PyProof.Rows.boot_list (Ae (Db v5 (Ad 0)) Al))))
variable(i8:MethT P w K mg base true 1 0 "table" [("Table",j_3)])
def ag_9(F:Fun K "table" "Peeled.table" (Ba 57 2) f fd):FnX P w K mg base true 2 f fd ["self"] (Bh K 1 c_7):=
 Bl (N:=["self"]) F λzr zu hu nd zv=>(Aq (Bj [0] (h_8 i8 zu zv (Db b6 (Ad 0)))))
def ad_2(F:Fun K "table" "Ordered.table" (Ba 58 2) f fd):FnX P w K mg base true 2 f fd ["self"] (Bh K 1 c_4):=
 Bl (N:=["self"]) F λzr zu hu nd zv=>(Aq (Bj [0] (h_8 i8 zu zv (Db b6 (Ad 0)))))
def ao_0(F:Fun K "table" "Kept.table" (Ba 61 3) f fd):FnX P w K mg base true 2 f fd ["self"] (Bh K 1 d_9):=
 Bl (N:=["self"]) F λzr zu hu nd zv=>(Aq (Bj [0] (h_8 i8 zu zv (Db b6 (Ad 0)))))
def ah_0(F:Fun K "table" "Marked.table" (Ba 62 3) f fd):FnX P w K mg base true 2 f fd ["self"] (Bh K 1 c_8):=
 Bl (N:=["self"]) F λzr zu hu nd zv=>(Aq (Bj [0] (h_8 i8 zu zv (Db b6 (Ad 0)))))
def bl_1(F:Fun K "salt" "Table.salt" (Ba 51 1) f fd):FnX P w K mg base true 1 f fd ["self"] (Bh K 1 l_4):=
 Bl (N:=["self"]) F λzr zu hu nd zv=>(Aq (Bj [0] (Db u4 (Ad 0))))
variable(j2:MethT P w K mg base true 1 0 "salt" [("Table",l_4)])
def aj_9(F:Fun K "salt" "Peeled.salt" (Ba 57 1) f fd):FnX P w K mg base true 2 f fd ["self"] (Bh K 1 f_1):=
 Bl (N:=["self"]) F λzr zu hu nd zv=>(Aq (Bj [0] (h_8 j2 zu zv (Db b6 (Ad 0)))))
def ah_1(F:Fun K "salt" "Ordered.salt" (Ba 58 1) f fd):FnX P w K mg base true 2 f fd ["self"] (Bh K 1 e_6):=
 Bl (N:=["self"]) F λzr zu hu nd zv=>(Aq (Bj [0] (h_8 j2 zu zv (Db b6 (Ad 0)))))
def at_5(F:Fun K "salt" "Kept.salt" (Ba 61 2) f fd):FnX P w K mg base true 2 f fd ["self"] (Bh K 1 h_2):=
 Bl (N:=["self"]) F λzr zu hu nd zv=>(Aq (Bj [0] (h_8 j2 zu zv (Db b6 (Ad 0)))))
def ak_0(F:Fun K "salt" "Marked.salt" (Ba 62 2) f fd):FnX P w K mg base true 2 f fd ["self"] (Bh K 1 f_2):=
 Bl (N:=["self"]) F λzr zu hu nd zv=>(Aq (Bj [0] (h_8 j2 zu zv (Db b6 (Ad 0)))))
def u_7(F:Fun K "many" "House.many" (Ba 54 1) f fd):FnX P w K mg base true 1 f fd ["self"] (Bh K 1 b_0):=
 Bl (N:=["self"]) F λzr zu hu nd zv=>(Aq (Bj [0] (Db d5 (Ad 0))))
def at_6(F:Fun K "many" "Kept.many" (Ba 61 1) f fd):FnX P w K mg base true 1 f fd ["self"] (Bh K 1 f_7):=
 Bl (N:=["self"]) F λzr zu hu nd zv=>(Aq (Bj [0] (Db d5 (Ad 0))))
def ak_1(F:Fun K "many" "Marked.many" (Ba 62 1) f fd):FnX P w K mg base true 1 f fd ["self"] (Bh K 1 e_1):=
 Bl (N:=["self"]) F λzr zu hu nd zv=>(Aq (Bj [0] (Db d5 (Ad 0))))
def ak_2(F:Fun K "used" "Peeled.used" (Ba 57 3) f fd):FnX P w K mg base true 1 f fd ["self"] (Bh K 1 e_2):=
 Bl (N:=["self"]) F λzr zu hu nd zv=>(Aq (Bj [0] (Db l4 (Ad 0))))
variable(ab6:an_6 P w K mg base)(d4:MethT P w K mg base true 6 1 "places" L98)(c6:MethT P w K mg base true 2 0 "table" L92)(c7:MethT P w K mg base true 2 0 "salt" L91)(b9:MethT P w K mg base true 1 0 "many" L90)(j7:MethT P w K mg base true 1 0 "used" J14)
def cp_0(F:Fun K "_law_all" "_law_all" (Aw 84) f fd):FnX P w K mg base true 11 f fd Lf (Bh K 3 n_2):=
 Bl (N:=["_law_house","_law_form","_law_keys_here","_law_found"]) F λzr zu hu nd zv=>(Ar (Bk (i:=3) [0,2] (Gg (Ae (h_8 b9 zu zv (Ad 0)) (Ae (h_8 c7 zu zv (Ad 0)) (Ae (h_8 c6 zu zv (Ad 0)) (Ae (l_2 (N':=["_law_house","_law_form","_law_keys_here","_law_found","_law_key_here"]) zr (t_9 (Ad 2)) rfl (by rfl') rfl (λC s0 H0 fp pn=>⟨(Gn (i:=4)),p_3,(k_2 d4 (g_8 zu) l_1 (Ad 0) (Ae (Ad 4) Al))⟩)) Al))))) nd)
  (Ar (Cn [1] (Cl (Ga hu) (Ad 1) Au (Cp _))
   (Aq (bd_8 (i:=3) (h_8 j7 zu zv (Ad 0))))
   Ct)
  (Aq (Bj [0,1,2,3] (Ay Cz (Ad 3) (Gg (Ae (Ax zu zv ab6 (Ae (Ad 0) (Ae (Ad 1) (Ae (Ad 2) Al)))) Al)))))))
def at_7(F:Fun K "number_written" "number_written" (Aw 11) f fd):FnX P w K mg base true 1 f fd ["number","width"] (Bh K 2 n_3):=
 Bl (N:=["number","width","signs","rest","turn"]) F λzr zu hu nd zv=>(Ar (Bk (i:=2) [] Gc nd)
  (Ar (Bk (i:=3) [0] (Ad 0) nd)
  (Ar (Gq [1] Fv zr (i_5 j6 (Ae (Ad 1) Al)) (r_7 (i:=4) nd)
   (Ar (Bk (i:=2) [2,3] (Ay Cz (x_5 ck_7 rfl as8 PyProof.Rows.boot_str (Ae (Ay Ez (Ad 3) Au) Al)) (Ad 2)) nd)
  (Aq (Bk (i:=3) [3] (Ay t_6 (Ad 3) Au) nd))))
  (Aq (r_6 2)))))
variable(v6:ac_9 P w K mg base){ac6:Addr}(ac5:XC P w K mg base "NoBits" "at" ac6)
def cp_1(F:Fun K "written" "written" (Aw 12) f fd):FnX P w K mg base true 3 f fd ["numbers","width"] (Bh K 2 ac_5):=
 Bl (N:=["numbers","width","limit","place","number"]) F λzr zu hu nd zv=>(Ar (Bk (i:=2) [1] (Ax zu zv p6 (Ae (Ad 1) Al)) nd)
  (Ar (Gq [0] Fv zr (ak_4 k8 (Ad 0)) (ah_8 (i:=3) (j:=4) zr nd)
   (Aq (Cn [2,4] (bd_3 (j_8 (Ax zu zv o7 (Ae (Ad 4) (Ae (Ad 2) Al)))))
   (Aq (v_6 [3] ac5 (RoomC.mono zu (by decide)) v_2 (Ad 3)))
   Ct)))
  (Aq (Bj [0,1] (bb_0 PySem.F.plainAttrs_str PySem.F.slot_str_join PySem.F.type_str_join cb_7 Gc (Ae (l_2 (N':=["numbers","width","limit","place","?4","number"]) zr (t_9 (Ad 0)) rfl (by rfl') rfl (λC s0 H0 fp pn=>⟨(Gn (i:=5)),p_3,(Ax (g_8 zu) l_1 v6 (Ae (Ad 5) (Ae (Ad 1) Al)))⟩)) Al))))))
variable(ao6:bq_7 P w K mg base)
def cp_2(F:Fun K "told_by" "told_by" (Aw 68) f fd):FnX P w K mg base true 4 f fd ["name","house","width","used"] (Bh K 4 l_0):=
 Bl (N:=["name","house","width","used","bits"]) F λzr zu hu nd zv=>(Ar (Bk (i:=4) [1,2] (Ax zu zv ao6 (Ae (h_8 c6 zu zv (Ad 1)) (Ae (Ad 2) Al))) nd)
  (Aq (Bj [0,1,2,3,4] (dd_1 (Ae (Ad 0) (Ae (Db z8 (Db b6 (Ad 1))) (Ae (h_8 c7 zu zv (Ad 1)) (Ae (h_8 b9 zu zv (Ad 1)) (Ae (Ad 2) (Ae (Ad 4) (Ae (Ad 3) Al)))))))))))
def by_6(F:Fun K "width_for" "width_for" (Aw 18) f fd):FnX P w K mg base true 1 f fd ["number"] (Bh K 1 n_6):=
 Bl (N:=["number"]) F λzr zu hu nd zv=>(Aq (Bj [0] (Cy (ab_7 zr) rfl am4 PyProof.Rows.boot_max (Ae (de_8 PySem.F.plainAttrs_int PySem.F.slot_int_bit_length PySem.F.type_int_bit_length cw_6 (Ay aq_7 (Ad 0) Au)) (Ae Au Al)))))
variable(aa2:bq_8 P w K mg base)(ab2:az_7 P w K mg base){f8:Addr}(ao1:IsOneO K (.ref f8) L93)(ah5:mg "Peeled" =some (.ref f8)){d8:Addr}(aj5:IsOneO K (.ref d8) L94)(ad3:mg "Ordered" =some (.ref d8)){k9:Addr}(av9:IsOneO K (.ref k9) L95)(aq6:mg "Kept" =some (.ref k9)){g9:Addr}(an1:IsOneO K (.ref g9) L96)(ah2:mg "Marked" =some (.ref g9))
def bl_2(F:Fun K "house_told" "house_told" (Aw 69) f fd):FnX P w K mg base true 5 f fd ["house"] (Bh K 1 e_4):=
 Bl (N:=["house"]) F λzr zu hu nd zv=>(Ar (Cn [0] (j_8 (bu_8 ao1 (Ad 0) j4 ah5))
   (Aq (Bj [0] (Ax zu zv aa2 (Ae Gc (Ae (Ad 0) (Ae (Ax zu zv ab2 (Ae (Db z8 (Db b6 (Ad 0))) Al)) (Ae (h_8 j7 zu zv (Ad 0)) Al)))))))
   Ct)
  (Ar (Cn [0] (j_8 (bu_8 aj5 (Ad 0) j4 ad3))
   (Aq (Bj [0] (Ax zu zv aa2 (Ae Gc (Ae (Ad 0) (Ae (Ax zu zv ab2 (Ae (h_8 b9 zu zv (Ad 0)) Al)) (Ae Gc Al)))))))
   Ct)
  (Ar (Cn [0] (j_8 (bu_8 av9 (Ad 0) j4 aq6))
   (Aq (Bj [0] (Ax zu zv aa2 (Ae Gc (Ae (Ad 0) (Ae (Db m6 (Ad 0)) (Ae Gc Al)))))))
   Ct)
  (Ar (Cn [0] (j_8 (bu_8 an1 (Ad 0) j4 ah2))
   (Aq (Bj [0] (Ax zu zv aa2 (Ae Gc (Ae (Ad 0) (Ae (Db m6 (Ad 0)) (Ae Gc Al)))))))
   Ct)
  (Aq (Bj [] br_9))))))
def bj_0(F:Fun K "is_multiple" "is_multiple" (Aw 13) f fd):FnX P w K mg base true 1 f fd ["length","width"] (Bh K 2 r_0):=
 Bl (N:=["length","width"]) F λzr zu hu nd zv=>(Ar (Cn [1] (Cl ao_5 (Ad 1) Au (Cp _))
   (Aq (Bj [0] (ao_2 (Ga hu) (Ad 0) Au (Cp _))))
   Ct)
  (Aq (Bj [0,1] (ao_2 (Ga hu) (Ay Ez (Ad 0) (Ad 1)) Au (Cp _)))))
variable(ab7:an_7 P w K mg base)
def by_7(F:Fun K "look_bits" "look_bits" (Aw 14) f fd):FnX P w K mg base true 3 f fd L29 (Bh K 2 v_9):=
 Bl (N:=["bits","width","place","sign"]) F λzr zu hu nd zv=>(Ar (Gq [0] Fv zr (ak_4 k8 (Ad 0)) (ah_8 (i:=2) (j:=3) zr nd)
   (Aq (Cn [3] (td_w (dd_0 (Cl (ah_7 hu) (Ad 3) Gc (Cp _)) (cq_4 (Cl (ah_7 hu) (Ad 3) Gc (Cp _)))))
   (Aq (v_6 [2] ac5 (RoomC.mono zu (by decide)) v_2 (Ad 2)))
   Ct)))
  (Aq (Cn [0,1] (bd_3 (j_8 (Ax zu zv ab7 (Ae (Cy Er rfl j8 PySem.boot_len (Ae (Ad 0) Al)) (Ae (Ad 1) Al)))))
   (Aq (v_6 [0] ac5 (RoomC.mono zu (by decide)) v_2 (Cy Er rfl j8 PySem.boot_len (Ae (Ad 0) Al))))
   Ct)))
def bj_1(F:Fun K "number_read" "number_read" (Aw 15) f fd):FnX P w K mg base true 1 f fd ["bits"] (Bh K 1 r_1):=
 Bl (N:=["bits","number","sign"]) F λzr zu hu nd zv=>(Ar (Bk (i:=1) [] Au nd)
  (Ar (Gq [0] Fv zr (t_9 (Ad 0)) (r_7 (i:=2) nd)
   (Aq (Bk (i:=1) [1,2] (Ay Cz (Ay Eu Au (Ad 1)) (cq_5 (Cl (Ga hu) (Ad 2) Gc (Cp _)) Au Au)) nd)))
  (Aq (r_6 1))))
variable(ag3:az_8 P w K mg base)(ac1:an_8 P w K mg base)
def by_8(F:Fun K "read_bits" "read_bits" (Aw 16) f fd):FnX P w K mg base true 4 f fd L29 (Bh K 2 w_0):=
 Bl (N:=["bits","width","numbers","start"]) F λzr zu hu nd zv=>(Ar (ak_3 [0,1] (Ax zu zv ag3 (Ae (Ad 0) (Ae (Ad 1) Al))))
  (Ar (Bk (i:=2) [] (Gg Al) nd)
  (Ar (Bk (i:=3) [] Au nd)
  (Ar (ca_8 [0,3] 3000 Fv (Cl ao_5 (Ad 3) (Cy Er rfl j8 PySem.boot_len (Ae (Ad 0) Al)) (Cp _))
   (Ar (bd_8 (i:=2) (Ax zu zv ac1 (Ae (cb_4 (Ad 0) (bs_9 (Ad 3)) (bs_9 (Ay Cz (Ad 3) (Ad 1)))) Al)))
  (Aq (Bk (i:=3) [1,3] (Ay Cz (Ad 3) (Ad 1)) nd))))
  (Aq (r_6 2))))))
variable(ag7:az_9 P w K mg base)
def aw_7(F:Fun K "numbers_again" "numbers_again" (Aw 70) f fd):FnX P w K mg base true 5 f fd L24 (Bh K 3 o_7):=
 Bl (N:= L24) F λzr zu hu nd zv=>(Aq (Bj [0,1,2] (cq_5 (Cl bs_5 (Ad 1) Au (Cp _)) (Ax zu zv ag7 (Ae (Ad 0) (Ae (Ad 1) Al))) (df_8 (Ae Au Al) (Ad 2)))))
abbrev L16:List Str:=["self","how_many","own_table","used_row"]
def ad_3(F:Fun K "__init__" "PeeledAgain.__init__" (Ba 64 0) f fd){CI:Addr}(hCI:ClsAt K "PeeledAgain" CI):FnX P w K mg base true 1 f fd L16 (spI K CI 3 r_3):=
 Ft (n:=3) (cn:= "PeeledAgain") (N:= L16) F hCI (by decide) (by decide) λzr zu hu nd zv=>(Ar (Ej (i:=0) [1] d5 (Ad 1))
  (Ar (Ej (i:=0) [2] b6 (Ad 2))
  (Aq (Ej (i:=0) [3] l4 (Ad 3)))))
def ab_4(F:Fun K "__init__" "OrderedAgain.__init__" (Ba 65 0) f fd){CI:Addr}(hCI:ClsAt K "OrderedAgain" CI):FnX P w K mg base true 1 f fd ["self","how_many","own_table"] (spI K CI 2 p_7):=
 Ft (n:=2) (cn:= "OrderedAgain") (N:=["self","how_many","own_table"]) F hCI (by decide) (by decide) λzr zu hu nd zv=>(Ar (Ej (i:=0) [1] d5 (Ad 1))
  (Aq (Ej (i:=0) [2] b6 (Ad 2))))
abbrev Ls:List Str:=["self","how_many","own_table","width"]
def ah_2(F:Fun K "__init__" "KeptAgain.__init__" (Ba 66 0) f fd){CI:Addr}(hCI:ClsAt K "KeptAgain" CI):FnX P w K mg base true 1 f fd Ls (spI K CI 3 w_1):=
 Ft (n:=3) (cn:= "KeptAgain") (N:= Ls) F hCI (by decide) (by decide) λzr zu hu nd zv=>(Ar (Ej (i:=0) [1] d5 (Ad 1))
  (Ar (Ej (i:=0) [2] b6 (Ad 2))
  (Aq (Ej (i:=0) [3] m6 (Ad 3)))))
def ad_4(F:Fun K "__init__" "MarkedAgain.__init__" (Ba 67 0) f fd){CI:Addr}(hCI:ClsAt K "MarkedAgain" CI):FnX P w K mg base true 1 f fd Ls (spI K CI 3 r_4):=
 Ft (n:=3) (cn:= "MarkedAgain") (N:= Ls) F hCI (by decide) (by decide) λzr zu hu nd zv=>(Ar (Ej (i:=0) [1] d5 (Ad 1))
  (Ar (Ej (i:=0) [2] b6 (Ad 2))
  (Aq (Ej (i:=0) [3] m6 (Ad 3)))))
variable(z6:ag_7 P w K mg base)(aa3:Ew P w K mg base true "PeeledAgain" 1 3 r_3)(y9:Ew P w K mg base true "OrderedAgain" 1 2 p_7)(ad5:Ew P w K mg base true "KeptAgain" 1 3 w_1)(aa4:Ew P w K mg base true "MarkedAgain" 1 3 r_4)
def ci_7(F:Fun K "house_of" "house_of" (Aw 71) f fd):FnX P w K mg base true 6 f fd Lz (Bh K 7 p_8):=
 Bl (N:=["name","kind","salt","many","width","bits","used","part","listed","own_table"]) F λzr zu hu nd zv=>(Ar (Bk (i:=7) [1,3] (Ax zu zv l6 (Ae (Ad 3) (Ae (Ad 1) Al))) nd)
  (Ar (Bk (i:=8) [1,4,5,7] (Ax zu zv z6 (Ae (Ad 5) (Ae (Ad 4) (Ae (Ay Eu (Ad 1) (Ad 7)) Al)))) nd)
  (Ar (Cn [0] (Cl (Ga hu) (Ad 0) Gc (Cp _))
   (Aq (Bj [1,2,3,6,7,8] (r_8 zu zv aa3 (Ae (Ad 3) (Ae (r_8 zu zv aa8 (Ae (Ad 2) (Ae (Ad 1) (Ae (Ad 7) (Ae (Ad 1) (Ae (Ad 8) Al)))))) (Ae (Ad 6) Al))))))
   Ct)
  (Ar (Cn [0] (Cl (Ga hu) (Ad 0) Gc (Cp _))
   (Aq (Bj [1,2,3,7,8] (r_8 zu zv y9 (Ae (Ad 3) (Ae (r_8 zu zv aa8 (Ae (Ad 2) (Ae (Ad 1) (Ae (Ad 7) (Ae (Ad 3) (Ae (Ad 8) Al)))))) Al)))))
   Ct)
  (Ar (Bk (i:=9) [1,2,4,7,8] (r_8 zu zv aa8 (Ae (Ad 2) (Ae (Ad 1) (Ae (Ad 7) (Ae (Ax zu zv p6 (Ae (Ad 4) Al)) (Ae (Ad 8) Al)))))) nd)
  (Ar (Cn [0] (Cl (Ga hu) (Ad 0) Gc (Cp _))
   (Aq (Bj [3,4,9] (r_8 zu zv ad5 (Ae (Ad 3) (Ae (Ad 9) (Ae (Ad 4) Al))))))
   Ct)
  (Aq (Bj [3,4,9] (r_8 zu zv aa4 (Ae (Ad 3) (Ae (Ad 9) (Ae (Ad 4) Al))))))))))))
variable(aj3:bh_9 P w K mg base)
def bl_3(F:Fun K "made_again" "made_again" (Aw 72) f fd):FnX P w K mg base true 7 f fd ["what"] (Bh K 1 h_6):=
 Bl (N:=["what"]) F λzr zu hu nd zv=>(Aq (Bj [0] (Ax zu zv aj3 (Ae (t_5 (Ad 0) Au) (Ae (t_5 (Ad 0) Au) (Ae (t_5 (Ad 0) Au) (Ae (t_5 (Ad 0) Au) (Ae (t_5 (Ad 0) Au) (Ae (t_5 (Ad 0) Au) (Ae (t_5 (Ad 0) Au) Al))))))))))
variable(ak3:bh_4 P w K mg base)(y7:ag_3 P w K mg base)(aj8:bh_8 P w K mg base)(z9:bq_6 P w K mg base)(q8:at_2 P w K mg base)(z7:at_3 P w K mg base)(f7:MethT P w K mg base true 2 0 "table" J11)(u0:MethT P w K mg base true 7 1 "value" [("KeptAgain",d_8)])
def ef_0(F:Fun K "law" "law" (Aw 85) f fd):FnX P w K mg base true 12 f fd ["_law_script"] (Bh K 1 di_4):=
 Bl (N:=["_law_script","_law_keys_here","_law_cell_here","_law_width","_law_modulus","_law_k","_law_values","_law_kind","_law_asked","_law_form","_law_house","_law_due","_law_what","_law_again","_law_once_more"]) F λzr zu hu nd zv=>(Ar (Bk (i:=1) [0] (Ax zu zv ak3 (Ae (Ad 0) (Ae Au (Ae Au Al)))) nd)
  (Ar (Bk (i:=2) [0] (Ax zu zv o9 (Ae (Ad 0) (Ae Au Al))) nd)
  (Ar (Bk (i:=3) [2] (Ay Cz Au (Ay Ez (Ay t_6 (Ad 2) Au) Au)) nd)
  (Ar (Bk (i:=4) [] Au nd)
  (Ar (Gq [3] Fv zr (i_5 j6 (Ae (Ad 3) Al)) (r_7 (i:=5) nd)
   (Aq (Bk (i:=4) [4] (Ay Eu Au (Ad 4)) nd)))
  (Ar (bs_8 (i:=6) [0,1,4] (N':=["_law_script","_law_keys_here","_law_cell_here","_law_width","_law_modulus","?5","_law_values","_law_kind","_law_asked","_law_form","_law_house","_law_due","_law_what","_law_again","_law_once_more","_law_k"]) zr (i_5 j6 (Ae (Cy Er rfl j8 PySem.boot_len (Ae (Ad 1) Al)) Al)) rfl (by rfl') rfl (λC s0 H0 fp pn=>⟨(Gn (i:=15)),p_3,(Ay Ez (Ax (g_8 zu) l_1 l9 (Ae (Ax (g_8 zu) l_1 p9 (Ae (Ad 0) (Ae Au Al))) (Ae (Ad 15) Al))) (Ad 4))⟩) nd)
  (Ar (Bk (i:=7) [2] (Ay Cz Au (Ay Ez (Ay t_6 (Ad 2) Au) Au)) nd)
  (Ar (Bk (i:=8) [0,1] (Ay Cz (Ay Cz (Ad 1) (Ax zu zv y7 (Ae (Ad 0) (Ae (Ad 1) Al)))) (l_2 (N':=["_law_script","_law_keys_here","_law_cell_here","_law_width","_law_modulus","_law_k","_law_values","_law_kind","_law_asked","_law_form","_law_house","_law_due","_law_what","_law_again","_law_once_more","_law_number"]) zr (i_5 j6 (Ae Au Al)) rfl (by rfl') rfl (λC s0 H0 fp pn=>⟨(Gn (i:=15)),(cl_3 (Cl au_1 (Ad 15) (Ad 1) (by with_unfolding_all rfl))),(Ad 15)⟩))) nd)
  (Ar (Gq [2] Fv zr (t_9 (Gg (Ae (Ay Ez (Ad 2) Au) (Ae (Ay Ez (Ay Cz (Ad 2) Au) Au) Al)))) (r_7 (i:=9) nd)
   (Ar (Bk (i:=10) [1,3,6,7,9] (Ax zu zv aj8 (Ae (Ad 9) (Ae (Ad 1) (Ae (Ad 6) (Ae (Ad 3) (Ae (Ad 7) Al)))))) nd)
  (Aq (Cn [10] (Cl df_5 (Ad 10) br_9 (Cp _))
   (Ar (Bk (i:=11) [8,9,10] (Ax zu zv z9 (Ae (Ad 10) (Ae (Ad 9) (Ae (Ad 8) Al)))) nd)
  (Ar (Bk (i:=12) [10] (Ax zu zv q8 (Ae (Ad 10) Al)) nd)
  (Ar (Bk (i:=13) [12] (Ax zu zv z7 (Ae (Ad 12) Al)) nd)
  (Ar (Cn [8,9,11,12,13] (td_w (bz_7 (Cl (ah_7 hu) (Ax zu zv z9 (Ae (Ad 13) (Ae (Ad 9) (Ae (Ad 8) Al)))) (Ad 11) (Cp _)) (bd_2 (Cl (ah_7 hu) (Ax zu zv q8 (Ae (Ad 13) Al)) (Ad 12) (Cp _)))))
   (Aq (Bj [] ax_0))
   Ct)
  (Ar (dt_0 (h_8 f7 zu zv (Ad 13)) Au)
  (Ar (Bk (i:=14) [13] (Ax zu zv z7 (Ae (Ax zu zv q8 (Ae (Ad 13) Al)) Al)) nd)
  (Ar (Cn [8,9,11,13,14] (td_w (bz_7 (Cl (ah_7 hu) (Ax zu zv z9 (Ae (Ad 14) (Ae (Ad 9) (Ae (Ad 8) Al)))) (Ad 11) (Cp _)) (bd_2 (Cl (ah_7 hu) (Ax zu zv z9 (Ae (Ad 13) (Ae (Ad 9) (Ae (Ad 8) Al)))) (Ad 11) (Cp _)))))
   (Aq (Bj [] ax_0))
   Ct)
  (Aq (Cn [1,6,9,10,12,14] (td_w (bz_7 (td_w (dd_0 (Cl (Ga hu) (Ad 9) Au (Cp _)) (cq_4 (Cl (ah_7 hu) (l_2 (N':=["_law_script","_law_keys_here","_law_cell_here","_law_width","_law_modulus","_law_k","_law_values","_law_kind","_law_asked","_law_form","_law_house","_law_due","_law_what","_law_again","_law_once_more","_law_key_here"]) zr (t_9 (Ad 1)) rfl (by rfl') rfl (λC s0 H0 fp pn=>⟨(Gn (i:=15)),p_3,(k_2 u0 (g_8 zu) l_1 (Ad 14) (Ae (Ad 15) Al))⟩)) (Ad 6) (Cp _))))) (bd_2 (Cl (ah_7 hu) (Ax zu zv q8 (Ae (Ad 10) Al)) (Ad 12) (Cp _)))))
   (Aq (Bj [] ax_0))
   Ct)))))))))
   Ct))))
  (Aq (Bj [] ax_0)))))))))))
abbrev bj_2:Stmt:=Aw 85
end
def ef_1{l:PySem.W.OpenLaw}{w:World}{K:Frag}{h:Heap}{mg:Str->Option Value}{fa:Addr}(X:K.In h)(G:h.Ns mainGlobals mg)(hfa:mg "law" =some (.ref fa))
  {al1 p5 f8 d8 k9 g9 d6 d7 i7 f9 ah3 ah6 aa1 ac6 ac8 o5:Addr}
  {bd1:Addr} {bd4 bc7:Option Addr} {bd8:Array (Option Value)} {be1 bc5 bc4 bc8 bb4 bc6:Value}
  {au5 bb1 ak6 aw3 ba2 aw2:Tok}
  (bb2:nsIn K mainGlobals "House" =some (some (.ref al1)))
  (o8:nsIn K mainGlobals "Table" =some (some (.ref p5)))
  (q9:Cls K p5)
  (ba9:makesIn K p5=true)
  (ba8:keepIn K (.ref p5)=true)
  (ao2:NoAttr K p5 "by_salt")
  (au0:NoAttr K p5 "kind")
  (au4:NoAttr K p5 "part")
  (an7:NoAttr K p5 "modulus")
  (ap3:NoAttr K p5 "listed")
  (j5:nsIn K mainGlobals "Peeled" =some (some (.ref f8)))
  (m7:Cls K f8)
  (ay5:makesIn K f8=true)
  (ay2:keepIn K (.ref f8)=true)
  (aj9:NoAttr K f8 "how_many")
  (ai3:NoAttr K f8 "own_table")
  (ak4:NoAttr K f8 "used_row")
  (j3:nsIn K mainGlobals "Ordered" =some (some (.ref d8)))
  (n5:Cls K d8)
  (ay0:makesIn K d8=true)
  (ax2:keepIn K (.ref d8)=true)
  (ai8:NoAttr K d8 "how_many")
  (ag0:NoAttr K d8 "own_table")
  (o6:nsIn K mainGlobals "Kept" =some (some (.ref k9)))
  (y1:Cls K k9)
  (bc2:makesIn K k9=true)
  (bb6:keepIn K (.ref k9)=true)
  (an4:NoAttr K k9 "how_many")
  (al5:NoAttr K k9 "own_table")
  (au6:NoAttr K k9 "width")
  (l3:nsIn K mainGlobals "Marked" =some (some (.ref g9)))
  (p8:Cls K g9)
  (az7:makesIn K g9=true)
  (az4:keepIn K (.ref g9)=true)
  (aj6:NoAttr K g9 "how_many")
  (ai1:NoAttr K g9 "own_table")
  (ap4:NoAttr K g9 "width")
  (d9:nsIn K mainGlobals "PeeledAgain" =some (some (.ref d6)))
  (j1:Cls K d6)
  (as6:makesIn K d6=true)
  (ar4:keepIn K (.ref d6)=true)
  (ad2:NoAttr K d6 "how_many")
  (ab8:NoAttr K d6 "own_table")
  (ac9:NoAttr K d6 "used_row")
  (f6:nsIn K mainGlobals "OrderedAgain" =some (some (.ref d7)))
  (j9:Cls K d7)
  (ao9:makesIn K d7=true)
  (aq2:keepIn K (.ref d7)=true)
  (ab9:NoAttr K d7 "how_many")
  (ab0:NoAttr K d7 "own_table")
  (j0:nsIn K mainGlobals "KeptAgain" =some (some (.ref i7)))
  (l8:Cls K i7)
  (av2:makesIn K i7=true)
  (av5:keepIn K (.ref i7)=true)
  (af0:NoAttr K i7 "how_many")
  (ad8:NoAttr K i7 "own_table")
  (ak1:NoAttr K i7 "width")
  (g8:nsIn K mainGlobals "MarkedAgain" =some (some (.ref f9)))
  (l0:Cls K f9)
  (as4:makesIn K f9=true)
  (ar7:keepIn K (.ref f9)=true)
  (ac7:NoAttr K f9 "how_many")
  (ac0:NoAttr K f9 "own_table")
  (af9:NoAttr K f9 "width")
  (w1:FnTop K "_law_raw" (Aw 75))
  (w2:FnTop K "_law_mix" (Aw 74))
  (w3:FnTop K "_law_cell" (Aw 76))
  (w4:FnTop K "_law_great" (Aw 78))
  (w5:FnTop K "_law_cells" (Aw 79))
  (w6:FnTop K "_law_key" (Aw 77))
  (w7:FnTop K "_law_keys" (Aw 80))
  (w8:FnTop K "_law_strangers" (Aw 81))
  (w9:FnTop K "is_key_text" (Aw 26))
  (w10:FnTop K "is_key" (Aw 27))
  (w11:FnTop K "look_each_key" (Aw 32))
  (w12:FnTop K "look_unlike" (Aw 33))
  (w13:FnTop K "look_keys" (Aw 34))
  (w14:FnTop K "part_size" (Aw 44))
  (w15:FnTop K "worth" (Aw 28))
  (w16:FnTop K "stamp" (Aw 29))
  (w17:FnTop K "mixed" (Aw 30))
  (w18:FnTop K "places_of" (Aw 45))
  (w19:FnTop K "edges_of" (Aw 46))
  (w20:FnTop K "standing_at" (Aw 40))
  (w21:FnTop K "take_away" (Aw 41))
  (w22:FnTop K "peeled" (Aw 42))
  (w23:FnTop K "fate" (Aw 47))
  (w24:FnTop K "succeeds" (Aw 48))
  (w25:FnTop K "first_try" (Aw 49))
  (w26:FnTop K "chosen_places" (Aw 55))
  (w27:FnTop K "is_below" (Aw 9))
  (w28:FnTop K "remainder" (Aw 36))
  (w29:FnTop K "summed" (Aw 37))
  (w30:FnTop K "filled" (Aw 38))
  (w31:FnMet K p5 "__init__" "Table.__init__" (Ba 51 0))
  (w32:FnTop K "table_for" (Aw 52))
  (w33:FnTop K "row_with_ones" (Aw 56))
  (w34:FnBase K al1 "House.__init__" (Ba 54 0))
  (w35:FnMet K f8 "__init__" "Peeled.__init__" (Ba 57 0))
  (w36:FnBase K al1 "House.__init__" (Ba 54 0))
  (w37:FnMet K d8 "__init__" "Ordered.__init__" (Ba 58 0))
  (w38:FnTop K "two_to" (Aw 10))
  (w39:FnTop K "look_values" (Aw 60))
  (w40:FnMet K k9 "__init__" "Kept.__init__" (Ba 61 0))
  (w41:FnTop K "mark" (Aw 31))
  (w42:FnMet K g9 "__init__" "Marked.__init__" (Ba 62 0))
  (w43:FnTop K "_law_made" (Aw 82))
  (w44:FnTop K "ones_before" (Aw 17))
  (w45:FnMet K p5 "places" "Table.places" (Ba 51 3))
  (w46:FnMet K f8 "places" "Peeled.places" (Ba 57 4))
  (w47:FnMet K d6 "places" "Peeled.places" (Ba 57 4))
  (w48:FnMet K p5 "total" "Table.total" (Ba 51 4))
  (w49:FnMet K f8 "number_of" "Peeled.number_of" (Ba 57 5))
  (w50:FnMet K d8 "number_of" "Ordered.number_of" (Ba 58 4))
  (w51:FnMet K d6 "number_of" "Peeled.number_of" (Ba 57 5))
  (w52:FnMet K d7 "number_of" "Ordered.number_of" (Ba 58 4))
  (w53:FnMet K f8 "room" "House.room" (Ba 54 2))
  (w54:FnMet K d8 "room" "House.room" (Ba 54 2))
  (w55:FnMet K d6 "room" "House.room" (Ba 54 2))
  (w56:FnMet K d7 "room" "House.room" (Ba 54 2))
  (w57:FnMet K f8 "rooms" "House.rooms" (Ba 54 3))
  (w58:FnMet K d8 "rooms" "House.rooms" (Ba 54 3))
  (w59:FnMet K d6 "rooms" "House.rooms" (Ba 54 3))
  (w60:FnMet K d7 "rooms" "House.rooms" (Ba 54 3))
  (w61:FnMet K k9 "value" "Kept.value" (Ba 61 5))
  (w62:FnMet K i7 "value" "Kept.value" (Ba 61 5))
  (w63:FnMet K g9 "knows" "Marked.knows" (Ba 62 5))
  (w64:FnMet K f9 "knows" "Marked.knows" (Ba 62 5))
  (w65:FnTop K "_law_answers" (Aw 83))
  (w66:FnMet K d8 "places" "Ordered.places" (Ba 58 3))
  (w67:FnMet K k9 "places" "Kept.places" (Ba 61 4))
  (w68:FnMet K g9 "places" "Marked.places" (Ba 62 4))
  (w69:FnMet K d7 "places" "Ordered.places" (Ba 58 3))
  (w70:FnMet K i7 "places" "Kept.places" (Ba 61 4))
  (w71:FnMet K f9 "places" "Marked.places" (Ba 62 4))
  (w72:FnMet K p5 "table" "Table.table" (Ba 51 2))
  (w73:FnMet K f8 "table" "Peeled.table" (Ba 57 2))
  (w74:FnMet K d8 "table" "Ordered.table" (Ba 58 2))
  (w75:FnMet K k9 "table" "Kept.table" (Ba 61 3))
  (w76:FnMet K g9 "table" "Marked.table" (Ba 62 3))
  (w77:FnMet K d6 "table" "Peeled.table" (Ba 57 2))
  (w78:FnMet K d7 "table" "Ordered.table" (Ba 58 2))
  (w79:FnMet K i7 "table" "Kept.table" (Ba 61 3))
  (w80:FnMet K f9 "table" "Marked.table" (Ba 62 3))
  (w81:FnMet K p5 "salt" "Table.salt" (Ba 51 1))
  (w82:FnMet K f8 "salt" "Peeled.salt" (Ba 57 1))
  (w83:FnMet K d8 "salt" "Ordered.salt" (Ba 58 1))
  (w84:FnMet K k9 "salt" "Kept.salt" (Ba 61 2))
  (w85:FnMet K g9 "salt" "Marked.salt" (Ba 62 2))
  (w86:FnMet K d6 "salt" "Peeled.salt" (Ba 57 1))
  (w87:FnMet K d7 "salt" "Ordered.salt" (Ba 58 1))
  (w88:FnMet K i7 "salt" "Kept.salt" (Ba 61 2))
  (w89:FnMet K f9 "salt" "Marked.salt" (Ba 62 2))
  (w90:FnMet K f8 "many" "House.many" (Ba 54 1))
  (w91:FnMet K d8 "many" "House.many" (Ba 54 1))
  (w92:FnMet K k9 "many" "Kept.many" (Ba 61 1))
  (w93:FnMet K g9 "many" "Marked.many" (Ba 62 1))
  (w94:FnMet K d6 "many" "House.many" (Ba 54 1))
  (w95:FnMet K d7 "many" "House.many" (Ba 54 1))
  (w96:FnMet K i7 "many" "Kept.many" (Ba 61 1))
  (w97:FnMet K f9 "many" "Marked.many" (Ba 62 1))
  (w98:FnMet K f8 "used" "Peeled.used" (Ba 57 3))
  (w99:FnMet K d6 "used" "Peeled.used" (Ba 57 3))
  (bf8:FnTop K "_law_all" (Aw 84))
  (be4:FnTop K "number_written" (Aw 11))
  (be8:FnTop K "written" (Aw 12))
  (bf7:FnTop K "told_by" (Aw 68))
  (be7:FnTop K "width_for" (Aw 18))
  (be9:FnTop K "house_told" (Aw 69))
  (bg2:FnTop K "is_multiple" (Aw 13))
  (bf2:FnTop K "look_bits" (Aw 14))
  (bf6:FnTop K "number_read" (Aw 15))
  (bf0:FnTop K "read_bits" (Aw 16))
  (bf5:FnTop K "numbers_again" (Aw 70))
  (be2:FnMet K d6 "__init__" "PeeledAgain.__init__" (Ba 64 0))
  (be5:FnMet K d7 "__init__" "OrderedAgain.__init__" (Ba 65 0))
  (bg3:FnMet K i7 "__init__" "KeptAgain.__init__" (Ba 66 0))
  (bf1:FnMet K f9 "__init__" "MarkedAgain.__init__" (Ba 67 0))
  (bf3:FnTop K "house_of" (Aw 71))
  (bg1:FnTop K "made_again" (Aw 72))
  (bf9:nsIn K mainGlobals "law" =some (some (.ref bd1))) (be6:K.lookup bd1=some ⟨be1,bd4,.func (fnOf "law" "law" (k_1 bj_2) (Fc bj_2) (Ck bj_2) .none bc5 bc4 bc8 bc7 bb4 bc6),bd8⟩) (bg0:codeIn K bb4 "law" =true) (bf4:keepIn K (.ref bd1)=true)
  (be0:nsIn K mainGlobals "len" =some none)
  (bd3:nsIn K mainGlobals "max" =some none)
  (bb9:nsIn K mainGlobals "range" =some none)
  (bd7:nsIn K mainGlobals "min" =some none)
  (bd5:nsIn K mainGlobals "int" =some none)
  (bd2:nsIn K mainGlobals "all" =some none)
  (av6:nsIn K mainGlobals "isinstance" =some none)
  (bc9:nsIn K mainGlobals "bool" =some none)
  (bd6:nsIn K mainGlobals "str" =some none)
  (aw7:nsIn K mainGlobals "enumerate" =some none)
  (bb8:nsIn K mainGlobals "tuple" =some none)
  (bd0:nsIn K mainGlobals "list" =some none)
  (bd9:nsIn K mainGlobals "sum" =some none)
  (ax8:nsIn K mainGlobals "reversed" =some none)
  (ax5:kitOne K (.type "NoneType") (.type "bool")=some false)
  (ay3:kitOne K (.type "bool") (.type "bool")=some true)
  (ax4:kitOne K (.type "int") (.type "bool")=some false)
  (ax9:kitOne K (.type "str") (.type "bool")=some false)
  (ax3:kitOne K (.type "list") (.type "bool")=some false)
  (ax6:kitOne K (.type "tuple") (.type "bool")=some false)
  (ay6:kitOne K (.type "NoneType") (.type "int")=some false)
  (ba7:kitOne K (.type "bool") (.type "int")=some true)
  (az8:kitOne K (.type "int") (.type "int")=some true)
  (az2:kitOne K (.type "str") (.type "int")=some false)
  (az5:kitOne K (.type "list") (.type "int")=some false)
  (ay7:kitOne K (.type "tuple") (.type "int")=some false)
  (ay1:kitOne K (.type "NoneType") (.type "str")=some false)
  (bb0:kitOne K (.type "bool") (.type "str")=some false)
  (ay9:kitOne K (.type "int") (.type "str")=some false)
  (az1:kitOne K (.type "str") (.type "str")=some true)
  (az6:kitOne K (.type "list") (.type "str")=some false)
  (az0:kitOne K (.type "tuple") (.type "str")=some false)
  (au8:nsIn K mainGlobals "MOST_SIGNS" =some (some (.int 11 au5)))
  (bc3:nsIn K mainGlobals "SIGNS" =some (some (.str "abcdefghijklmnopqrstuvwxyz0123456789-_ " bb1)))
  (al7:nsIn K mainGlobals "GREATEST_NUMBER" =some (some (.int 999999999999999999 ak6)))
  (aw5:nsIn K mainGlobals "MOST_KEYS" =some (some (.int 200 aw3)))
  (bc0:nsIn K mainGlobals "PRIME" =some (some (.int 2305843009213693951 ba2)))
  (aw8:nsIn K mainGlobals "MARK_SALT" =some (some (.int 3 aw2)))
  (as7:nsIn K mainGlobals "NoKey" =some (some (.ref ah3)))
  (ar0:nsIn K mainGlobals "Twice" =some (some (.ref ah6)))
  (ak5:nsIn K mainGlobals "NoValue" =some (some (.ref aa1)))
  (an0:nsIn K mainGlobals "NoBits" =some (some (.ref ac6)))
  (ao8:nsIn K mainGlobals "NoKeys" =some (some (.ref ac8)))
  (as5:nsIn K mainGlobals "NoTry" =some (some (.ref o5)))
  (ad4:OInst K f8)
  (an2:KO K f8 f8 true)
  (am1:KO K f8 d8 false)
  (ar3:KO K f8 k9 false)
  (an9:KO K f8 g9 false)
  (ab3:OInst K d8)
  (al6:KO K d8 f8 false)
  (ak0:KO K d8 d8 true)
  (ap8:KO K d8 k9 false)
  (al0:KO K d8 g9 false)
  (am0:OInst K k9)
  (aq9:KO K k9 f8 false)
  (ap9:KO K k9 d8 false)
  (av3:KO K k9 k9 true)
  (aq8:KO K k9 g9 false)
  (ae1:OInst K g9)
  (ao5:KO K g9 f8 false)
  (al2:KO K g9 d8 false)
  (ar5:KO K g9 k9 false)
  (an3:KO K g9 g9 true)
  (r6:OInst K d6)
  (ae8:KO K d6 f8 true)
  (ae3:KO K d6 d8 false)
  (ai5:KO K d6 k9 false)
  (af1:KO K d6 g9 false)
  (r0:OInst K d7)
  (ad6:KO K d7 f8 false)
  (ad0:KO K d7 d8 true)
  (ag8:KO K d7 k9 false)
  (ad9:KO K d7 g9 false)
  (v7:OInst K i7)
  (ai6:KO K i7 f8 false)
  (ag6:KO K i7 d8 false)
  (al4:KO K i7 k9 true)
  (ai4:KO K i7 g9 false)
  (r9:OInst K f9)
  (ae9:KO K f9 f8 false)
  (ad7:KO K f9 d8 false)
  (aj0:KO K f9 k9 false)
  (ae6:KO K f9 g9 true)
  (bb3:XB K ah3 "NoKey.__init__" "at" af_0)
  (ar9:exmOne K (.ref ah3) (.ref o5)=some false)
  (ba6:XB K ah6 "Twice.__init__" "at" ae_9)
  (at7:exmOne K (.ref ah6) (.ref o5)=some false)
  (ax1:XB K aa1 "NoValue.__init__" "at" y_8)
  (ao7:exmOne K (.ref aa1) (.ref o5)=some false)
  (ay8:XB K ac6 "NoBits.__init__" "at" ab_2)
  (aq5:exmOne K (.ref ac6) (.ref o5)=some false)
  (az9:XB9 K ac8)
  (ap7:exmOne K (.ref ac8) (.ref o5)=some false)
  (ba3:XB9 K o5)
  (at2:exmOne K (.ref o5) (.ref o5)=some true):
  ∃fd:FuncData,(∀(s:Shared) (v:Value),BindsTo s fd ⟨[v],[]⟩ [("_law_script",v)])/\∀base:Heap,K.In base->base.Ns mainGlobals mg->FnOk l.prog w K mg base CX0 12 fa fd ["_law_script"] (be_4 K):=by
 have aw4:=mg_of X G bb2;have ba1:=mg_of X G o8;have ah5:=mg_of X G j5;have ad3:=mg_of X G j3;have aq6:=mg_of X G o6;have ah2:=mg_of X G l3;have ar6:=mg_of X G d9;have aq0:=mg_of X G f6;have av4:=mg_of X G j0;have at3:=mg_of X G g8;have u4:OFld K ["Table"] "by_salt" :=(.one o8 q9 ao2 .nil);have z8:OFld K ["Table"] "kind" :=(.one o8 q9 au0 .nil);have am7:OFld K ["Table"] "part" :=(.one o8 q9 au4 .nil);have aa7:OFld K ["Table"] "modulus" :=(.one o8 q9 an7 .nil);have v5:OFld K ["Table"] "listed" :=(.one o8 q9 ap3 .nil);have d5:OFld K La "how_many" :=(.one j5 m7 aj9 (.one j3 n5 ai8 (.one o6 y1 an4 (.one l3 p8 aj6 (.one d9 j1 ad2 (.one f6 j9 ab9 (.one j0 l8 af0 (.one g8 l0 ac7 .nil))))))));have b6:OFld K La "own_table" :=(.one j5 m7 ai3 (.one j3 n5 ag0 (.one o6 y1 al5 (.one l3 p8 ai1 (.one d9 j1 ab8 (.one f6 j9 ab0 (.one j0 l8 ad8 (.one g8 l0 ac0 .nil))))))));have l4:OFld K Lj "used_row" :=(.one j5 m7 ak4 (.one d9 j1 ac9 .nil));have m6:OFld K Lb "width" :=(.one o6 y1 au6 (.one l3 p8 ap4 (.one j0 l8 ak1 (.one g8 l0 af9 .nil))));have ba5:=mg_of X G as7;have ba0:=mg_of X G ar0;have ax7:=mg_of X G ak5;have ay4:=mg_of X G an0;have az3:=mg_of X G ao8;have ak9:=mg_of X G as5;have ao3:XC0 K mg "NoKeys" ac8:=di_0 ao8 az3 az9;have as9:XC0 K mg "NoTry" o5:=di_0 as5 ak9 ba3;have at6:Catches K o5 L97:=(.one an0 aq5 (.one as7 ar9 (.one ao8 ap7 (.one as5 at2 (.one ak5 ao7 (.one ar0 at7 .nil))))));have ao1:IsOneO K (.ref f8) L93:=(.one j5 ad4 an2 (.one j3 ab3 al6 (.one o6 am0 aq9 (.one l3 ae1 ao5 (.one d9 r6 ae8 (.one f6 r0 ad6 (.one j0 v7 ai6 (.one g8 r9 ae9 .nil))))))));have aj5:IsOneO K (.ref d8) L94:=(.one j5 ad4 am1 (.one j3 ab3 ak0 (.one o6 am0 ap9 (.one l3 ae1 al2 (.one d9 r6 ae3 (.one f6 r0 ad0 (.one j0 v7 ag6 (.one g8 r9 ad7 .nil))))))));have av9:IsOneO K (.ref k9) L95:=(.one j5 ad4 ar3 (.one j3 ab3 ap8 (.one o6 am0 av3 (.one l3 ae1 ar5 (.one d9 r6 ai5 (.one f6 r0 ag8 (.one j0 v7 al4 (.one g8 r9 aj0 .nil))))))));have an1:IsOneO K (.ref g9) L96:=(.one j5 ad4 an9 (.one j3 ab3 al0 (.one o6 am0 aq8 (.one l3 ae1 an3 (.one d9 r6 af1 (.one f6 r0 ad9 (.one j0 v7 ai4 (.one g8 r9 ae6 .nil))))))));have e:=hfa.symm.trans (mg_of X G bf9);cases e;have j8:=mg_none_of X G be0;have am4:=mg_none_of X G bd3;have j6:=mg_none_of X G bb9;have ah1:=mg_none_of X G bd7;have aw9:=mg_none_of X G bd5;have bb5:=mg_none_of X G bd2;have j4:=mg_none_of X G av6;have at9:=mg_none_of X G bc9;have as8:=mg_none_of X G bd6;have k8:=mg_none_of X G aw7;have av0:=mg_none_of X G bb8;have ae4:=mg_none_of X G bd0;have ba4:=mg_none_of X G bd9;have ak2:=mg_none_of X G ax8;have af7:KitT K "bool" :=⟨ax5,ay3,ax4,ax9,ax3,ax6⟩;have au7:KitT K "int" :=⟨ay6,ba7,az8,az2,az5,ay7⟩;have am5:KitT K "str" :=⟨ay1,bb0,ay9,az1,az6,az0⟩;have ae0:=mg_of X G au8;have ak8:=mg_of X G bc3;have u6:=mg_of X G al7;have ag1:=mg_of X G aw5;have am6:=mg_of X G bc0;have af8:=mg_of X G aw8;obtain⟨f21,a21,d21,F21⟩:=w21;obtain⟨f34,a34,⟨d34,F34⟩⟩:=w34;obtain⟨f36,a36,⟨d36,F36⟩⟩:=w36;have be3:=ck_0 (st:=bj_2) be6 bg0 bf4;refine⟨fnOf "law" "law" (k_1 bj_2) (Fc bj_2) (Ck bj_2) .none bc5 bc4 bc8 bc7 bb4 bc6,λs v=> .of_eq rfl,λbase _ _=> ?_⟩
 let lMd:=MethD l.prog w K mg base true
 let lMt:=MethT l.prog w K mg base true
 let lMk:=Ew l.prog w K mg base true
 let lXC:=XC l.prog w K mg base
 let lT:=λt:Program->World->Frag->(Str->Option Value)->Heap->Prop=>t l.prog w K mg base
 have am2:lXC "NoKey" "at" ah3:=cs_3 as7 ba5 bb3 λF y z=>⟨bl_0 F y z,Cc F⟩;have av1:lXC "Twice" "at" ah6:=cs_3 ar0 ba0 ba6 λF y z=>⟨bk_8 F y z,Cc F⟩;have ah4:lXC "NoValue" "at" aa1:=cs_3 ak5 ax7 ax1 λF y z=>⟨ba_5 F y z,Cc F⟩;have ac5:lXC "NoBits" "at" ac6:=cs_3 an0 ay4 ay8 λF y z=>⟨bi_1 F y z,Cc F⟩;have o9:lT bq_3:=Bz X G w1 λF=>⟨co_7 j8 F,Cc F⟩;have l9:lT bq_4:=Bz X G w2 λF=>⟨co_8 F,Cc F⟩;have p9:lT bh_3:=Bz X G w3 λF=>⟨ci_1 l9 o9 F,Cc F⟩;have y2:lT ay_9:=Bz X G w4 λF=>⟨bx_7 l9 F,Co F⟩;have af6:lT az_0:=Bz X G w5 λF=>⟨bx_8 j8 l9 o9 p9 y2 am4 j6 ah1 F,bn3 F⟩;have aa0:lT bq_5:=Bz X G w6 λF=>⟨co_9 j6 aw9 F,Co F⟩;have ak3:lT bh_4:=Bz X G w7 λF=>⟨ci_2 o9 af6 aa0 F,bn3 F⟩;have y7:lT ag_3:=Bz X G w8 λF=>⟨aw_2 l9 p9 y2 j6 aa0 F,Cc F⟩;have ab5:lT an_1:=Bz X G w9 λF=>⟨bi_2 j8 bb5 ae0 ak8 F,Co F⟩;have ag2:lT ch_6:=Bz X G w10 λF=>⟨da_1 aw9 ab5 j4 at9 as8 af7 au7 am5 u6 F,Co F⟩;have l2:lT ag_4:=Bz X G w11 λF=>⟨aw_3 ag2 k8 am2 F,Co F⟩;have ac2:lT an_2:=Bz X G w12 λF=>⟨bi_3 k8 av1 F,Co F⟩;have p7:lT az_1:=Bz X G w13 λF=>⟨bx_9 j8 l2 ac2 ao3 ag1 F,Co F⟩;have l6:lT az_2:=Bz X G w14 λF=>⟨by_0 F,Cc F⟩;have av7:lT ct_8:=Bz X G w15 λF=>⟨dm_1 ak8 F,Co F⟩;have al8:lT ct_9:=Bz X G w16 λF=>⟨dm_2 j4 as8 am5 ag2 am2 av7 F,Co F⟩;have al9:lT cu_0:=Bz X G w17 λF=>⟨dm_3 am6 F,bn3 F⟩;have x4:lT az_3:=Bz X G w18 λF=>⟨by_1 j6 al8 al9 av0 F,bn4 F⟩;have aa6:lT bh_5:=Bz X G w19 λF=>⟨ci_3 l6 p7 x4 F,bn3 F⟩;have ac3:lT an_3:=Bz X G w20 λF=>⟨bi_4 k8 F,Co F⟩;have af3:FnMd l.prog w K mg base true "take_away" 1 2 L15 p_5:=ec_4 F21 (mg_of X G a21) (bn3 F21) (by_2 F21);have as1:lT ch_7:=Bz X G w22 λF=>⟨da_2 j8 j6 ah1 ac3 af3 ae4 F,Cc F⟩;have aj7:lT dl_9:=Bz X G w23 λF=>⟨dv_5 j8 l6 aa6 as1 F,bn3 F⟩;have aj4:lT bh_6:=Bz X G w24 λF=>⟨ci_4 j8 aj7 F,bn3 F⟩;have n6:lT az_4:=Bz X G w25 λF=>⟨by_3 j6 p7 aj4 as9 F,bn3 F⟩;have y3:lT ag_5:=Bz X G w26 λF=>⟨aw_4 j8 j6 aj7 F,bn3 F⟩;have o7:lT bh_7:=Bz X G w27 λF=>⟨ci_5 j4 at9 af7 F,Cc F⟩;have x5:lT az_5:=Bz X G w28 λF=>⟨by_4 F,Cc F⟩;have ah0:lT ch_8:=Bz X G w29 λF=>⟨da_3 j8 o7 x5 ba4 F,bn3 F⟩;have aq7:lT ch_9:=Bz X G w30 λF=>⟨da_4 o7 x5 ah0 ak2 F,bn5 F⟩;have aa8:lMk "Table" 1 5 z_4:=ar_5 o8 ba1 ba9 ba8 w31 λF=>⟨at_4 u4 z8 am7 aa7 v5 F o8,bn6 F⟩;have m9:lT az_6:=Bz X G w32 λF=>⟨by_5 j8 l6 aa6 aj7 aq7 aa8 F,bn5 F⟩;have y4:lT ag_6:=Bz X G w33 λF=>⟨aw_5 j6 F,Cc F⟩;have n8:MakB l.prog w K mg base true "House" "Peeled" 1 1 f_6:=⟨al1,f8,_,_,_,j5,aw4,a34,ab_3 d5 F34 j5,(Cc F34)⟩;have ao4:lMk "Peeled" 9 3 v_7:=ar_5 j5 ah5 ay5 ay2 w35 λF=>⟨ap_8 j8 l6 n6 y3 m9 y4 n8 b6 l4 F j5,bn4 F⟩;have m8:MakB l.prog w K mg base true "House" "Ordered" 1 1 e_9:=⟨al1,d8,_,_,_,j3,aw4,a36,z_0 d5 F36 j3,(Cc F36)⟩;have aj2:lMk "Ordered" 9 3 t_1:=ar_5 j3 ad3 ay0 ax2 w37 λF=>⟨al_8 j8 j6 ae4 n6 m9 b6 m8 F j3,bn4 F⟩;have p6:lT ci_0:=Bz X G w38 λF=>⟨da_5 j6 F,Co F⟩;have ac4:lT an_4:=Bz X G w39 λF=>⟨bi_5 j8 k8 o7 ah4 F,bn3 F⟩;have av8:lMk "Kept" 9 5 ai_8:=ar_5 o6 aq6 bc2 bb6 w40 λF=>⟨aw_6 j8 p7 d5 n6 m9 b6 p6 ac4 m6 F o6,bn6 F⟩;have ao0:lT dm_0:=Bz X G w41 λF=>⟨dv_6 al8 al9 p6 af8 F,Cc F⟩;have an6:lMk "Marked" 9 4 v_8:=ar_5 l3 ah2 az7 az4 w42 λF=>⟨ap_9 j8 d5 n6 m9 b6 p6 m6 ao0 F l3,bn5 F⟩;have aj8:lT bh_8:=Bz X G w43 λF=>⟨ci_6 ao4 aj2 av8 an6 ak9 at6 F,bn5 F⟩;have v9:lT an_5:=Bz X G w44 λF=>⟨bi_6 am4 F,Cc F⟩;have ap0:lMd 5 1 "places" "Table" d_7:=Bv o8 q9 w45 λF=>⟨ba_6 x4 u4 z8 am7 F,Cc F⟩;have g7:lMt 5 1 "places" [("Table",d_7)]:=(Bs ap0 mtn);have ad1:lMd 6 1 "places" "Peeled" b_5:=Bv j5 m7 w46 λF=>⟨ad_0 b6 g7 F,Cc F⟩;have u7:lMd 6 1 "places" "PeeledAgain" b_5:=Bv d9 j1 w47 λF=>⟨ad_0 b6 g7 F,Cc F⟩;have at8:lMd 6 1 "total" "Table" c_9:=Bv o8 q9 w48 λF=>⟨bi_7 ah0 aa7 v5 g7 F,Cc F⟩;have k7:lMt 6 1 "places" J15:=(Bs ad1 (Bs u7 mtn));have i9:lMt 6 1 "total" [("Table",c_9)]:=(Bs at8 mtn);have ah7:lMd 7 1 "number_of" "Peeled" c_5:=Bv j5 m7 w49 λF=>⟨w_8 b6 l4 v9 k7 i9 F,Cc F⟩;have af4:lMd 7 1 "number_of" "Ordered" c_1:=Bv j3 n5 w50 λF=>⟨w_3 b6 i9 F,Cc F⟩;have ab4:lMd 7 1 "number_of" "PeeledAgain" c_5:=Bv d9 j1 w51 λF=>⟨w_8 b6 l4 v9 k7 i9 F,Cc F⟩;have ab1:lMd 7 1 "number_of" "OrderedAgain" c_1:=Bv f6 j9 w52 λF=>⟨w_3 b6 i9 F,Cc F⟩;have c9:lMt 7 1 "number_of" J12:=(Bs ah7 (Bs af4 (Bs ab4 (Bs ab1 mtn))));have at5:lMd 8 1 "room" "Peeled" a_8:=Bv j5 m7 w53 λF=>⟨u_6 ah1 d5 c9 F,Cc F⟩;have aq4:lMd 8 1 "room" "Ordered" a_8:=Bv j3 n5 w54 λF=>⟨u_6 ah1 d5 c9 F,Cc F⟩;have ah9:lMd 8 1 "room" "PeeledAgain" a_8:=Bv d9 j1 w55 λF=>⟨u_6 ah1 d5 c9 F,Cc F⟩;have ag5:lMd 8 1 "room" "OrderedAgain" a_8:=Bv f6 j9 w56 λF=>⟨u_6 ah1 d5 c9 F,Cc F⟩;have c8:lMt 8 1 "room" J10:=(Bs at5 (Bs aq4 (Bs ah9 (Bs ag5 mtn))));have ap1:lMd 9 1 "rooms" "Peeled" b_4:=Bv j5 m7 w57 λF=>⟨s_1 l2 c8 F,Cc F⟩;have am9:lMd 9 1 "rooms" "Ordered" b_4:=Bv j3 n5 w58 λF=>⟨s_1 l2 c8 F,Cc F⟩;have ag4:lMd 9 1 "rooms" "PeeledAgain" b_4:=Bv d9 j1 w59 λF=>⟨s_1 l2 c8 F,Cc F⟩;have ae7:lMd 9 1 "rooms" "OrderedAgain" b_4:=Bv f6 j9 w60 λF=>⟨s_1 l2 c8 F,Cc F⟩;have au3:lMd 7 1 "value" "Kept" d_8:=Bv o6 y1 w61 λF=>⟨an_9 b6 i9 F,Cc F⟩;have aa5:lMd 7 1 "value" "KeptAgain" d_8:=Bv j0 l8 w62 λF=>⟨an_9 b6 i9 F,Cc F⟩;have aq1:lMd 7 1 "knows" "Marked" e_5:=Bv l3 p8 w63 λF=>⟨ag_8 b6 m6 ao0 i9 F,Cc F⟩;have af5:lMd 7 1 "knows" "MarkedAgain" e_5:=Bv g8 l0 w64 λF=>⟨ag_8 b6 m6 ao0 i9 F,Cc F⟩;have h9:lMt 9 1 "rooms" J13:=(Bs ap1 (Bs am9 (Bs ag4 (Bs ae7 mtn))));have n9:lMt 7 1 "value" J17:=(Bs au3 (Bs aa5 mtn));have l7:lMt 7 1 "knows" J16:=(Bs aq1 (Bs af5 mtn));have ab6:lT an_6:=Bz X G w65 λF=>⟨bi_8 ae4 c8 h9 n9 l7 F,bn3 F⟩;have ak7:lMd 6 1 "places" "Ordered" d_1:=Bv j3 n5 w66 λF=>⟨aa_0 b6 g7 F,Cc F⟩;have ar2:lMd 6 1 "places" "Kept" f_0:=Bv o6 y1 w67 λF=>⟨aj_8 b6 g7 F,Cc F⟩;have an5:lMd 6 1 "places" "Marked" d_5:=Bv l3 p8 w68 λF=>⟨ad_1 b6 g7 F,Cc F⟩;have ae2:lMd 6 1 "places" "OrderedAgain" d_1:=Bv f6 j9 w69 λF=>⟨aa_0 b6 g7 F,Cc F⟩;have ai0:lMd 6 1 "places" "KeptAgain" f_0:=Bv j0 l8 w70 λF=>⟨aj_8 b6 g7 F,Cc F⟩;have ae5:lMd 6 1 "places" "MarkedAgain" d_5:=Bv g8 l0 w71 λF=>⟨ad_1 b6 g7 F,Cc F⟩;have ar1:lMd 1 0 "table" "Table" j_3:=Bv o8 q9 w72 λF=>⟨bi_9 ae4 v5 F,Co F⟩;have i8:lMt 1 0 "table" [("Table",j_3)]:=(Bs ar1 mtn);have aq3:lMd 2 0 "table" "Peeled" c_7:=Bv j5 m7 w73 λF=>⟨ag_9 b6 i8 F,Co F⟩;have an8:lMd 2 0 "table" "Ordered" c_4:=Bv j3 n5 w74 λF=>⟨ad_2 b6 i8 F,Co F⟩;have au2:lMd 2 0 "table" "Kept" d_9:=Bv o6 y1 w75 λF=>⟨ao_0 b6 i8 F,Co F⟩;have ap2:lMd 2 0 "table" "Marked" c_8:=Bv l3 p8 w76 λF=>⟨ah_0 b6 i8 F,Co F⟩;have y0:lMd 2 0 "table" "PeeledAgain" c_7:=Bv d9 j1 w77 λF=>⟨ag_9 b6 i8 F,Co F⟩;have u9:lMd 2 0 "table" "OrderedAgain" c_4:=Bv f6 j9 w78 λF=>⟨ad_2 b6 i8 F,Co F⟩;have aa9:lMd 2 0 "table" "KeptAgain" d_9:=Bv j0 l8 w79 λF=>⟨ao_0 b6 i8 F,Co F⟩;have x9:lMd 2 0 "table" "MarkedAgain" c_8:=Bv g8 l0 w80 λF=>⟨ah_0 b6 i8 F,Co F⟩;have au1:lMd 1 0 "salt" "Table" l_4:=Bv o8 q9 w81 λF=>⟨bl_1 u4 F,Co F⟩;have j2:lMt 1 0 "salt" [("Table",l_4)]:=(Bs au1 mtn);have ar8:lMd 2 0 "salt" "Peeled" f_1:=Bv j5 m7 w82 λF=>⟨aj_9 b6 j2 F,Co F⟩;have ap6:lMd 2 0 "salt" "Ordered" e_6:=Bv j3 n5 w83 λF=>⟨ah_1 b6 j2 F,Co F⟩;have aw0:lMd 2 0 "salt" "Kept" h_2:=Bv o6 y1 w84 λF=>⟨at_5 b6 j2 F,Co F⟩;have as2:lMd 2 0 "salt" "Marked" f_2:=Bv l3 p8 w85 λF=>⟨ak_0 b6 j2 F,Co F⟩;have ai2:lMd 2 0 "salt" "PeeledAgain" f_1:=Bv d9 j1 w86 λF=>⟨aj_9 b6 j2 F,Co F⟩;have ag9:lMd 2 0 "salt" "OrderedAgain" e_6:=Bv f6 j9 w87 λF=>⟨ah_1 b6 j2 F,Co F⟩;have am3:lMd 2 0 "salt" "KeptAgain" h_2:=Bv j0 l8 w88 λF=>⟨at_5 b6 j2 F,Co F⟩;have ai7:lMd 2 0 "salt" "MarkedAgain" f_2:=Bv g8 l0 w89 λF=>⟨ak_0 b6 j2 F,Co F⟩;have as3:lMd 1 0 "many" "Peeled" b_0:=Bv j5 m7 w90 λF=>⟨u_7 d5 F,Co F⟩;have ap5:lMd 1 0 "many" "Ordered" b_0:=Bv j3 n5 w91 λF=>⟨u_7 d5 F,Co F⟩;have au9:lMd 1 0 "many" "Kept" f_7:=Bv o6 y1 w92 λF=>⟨at_6 d5 F,Co F⟩;have at4:lMd 1 0 "many" "Marked" e_1:=Bv l3 p8 w93 λF=>⟨ak_1 d5 F,Co F⟩;have aj1:lMd 1 0 "many" "PeeledAgain" b_0:=Bv d9 j1 w94 λF=>⟨u_7 d5 F,Co F⟩;have af2:lMd 1 0 "many" "OrderedAgain" b_0:=Bv f6 j9 w95 λF=>⟨u_7 d5 F,Co F⟩;have am8:lMd 1 0 "many" "KeptAgain" f_7:=Bv j0 l8 w96 λF=>⟨at_6 d5 F,Co F⟩;have ai9:lMd 1 0 "many" "MarkedAgain" e_1:=Bv g8 l0 w97 λF=>⟨ak_1 d5 F,Co F⟩;have as0:lMd 1 0 "used" "Peeled" e_2:=Bv j5 m7 w98 λF=>⟨ak_2 l4 F,Co F⟩;have ah8:lMd 1 0 "used" "PeeledAgain" e_2:=Bv d9 j1 w99 λF=>⟨ak_2 l4 F,Co F⟩;have d4:lMt 6 1 "places" L98:=(Bs ad1 (Bs ak7 (Bs ar2 (Bs an5 (Bs u7 (Bs ae2 (Bs ai0 (Bs ae5 mtn))))))));have c6:lMt 2 0 "table" L92:=(Bs aq3 (Bs an8 (Bs au2 (Bs ap2 (Bs y0 (Bs u9 (Bs aa9 (Bs x9 mtn))))))));have c7:lMt 2 0 "salt" L91:=(Bs ar8 (Bs ap6 (Bs aw0 (Bs as2 (Bs ai2 (Bs ag9 (Bs am3 (Bs ai7 mtn))))))));have b9:lMt 1 0 "many" L90:=(Bs as3 (Bs ap5 (Bs au9 (Bs at4 (Bs aj1 (Bs af2 (Bs am8 (Bs ai9 mtn))))))));have j7:lMt 1 0 "used" J14:=(Bs as0 (Bs ah8 mtn));have z9:lT bq_6:=Bz X G bf8 λF=>⟨cp_0 ab6 d4 c6 c7 b9 j7 F,bn3 F⟩;have v6:lT ac_9:=Bz X G be4 λF=>⟨at_7 j6 as8 F,Cc F⟩;have ao6:lT bq_7:=Bz X G be8 λF=>⟨cp_1 k8 o7 p6 v6 ac5 F,Cc F⟩;have aa2:lT bq_8:=Bz X G bf7 λF=>⟨cp_2 z8 b6 c6 c7 b9 ao6 F,bn4 F⟩;have ab2:lT az_7:=Bz X G be7 λF=>⟨by_6 am4 F,Co F⟩;have q8:lT at_2:=Bz X G be9 λF=>⟨bl_2 j4 z8 b6 m6 b9 j7 aa2 ab2 ao1 ah5 aj5 ad3 av9 aq6 an1 ah2 F,Co F⟩;have ab7:lT an_7:=Bz X G bg2 λF=>⟨bj_0 F,Cc F⟩;have ag3:lT az_8:=Bz X G bf2 λF=>⟨by_7 j8 k8 ac5 ab7 F,Cc F⟩;have ac1:lT an_8:=Bz X G bf6 λF=>⟨bj_1 F,Co F⟩;have ag7:lT az_9:=Bz X G bf0 λF=>⟨by_8 j8 ag3 ac1 F,Cc F⟩;have z6:lT ag_7:=Bz X G bf5 λF=>⟨aw_7 ag7 F,bn3 F⟩;have aa3:lMk "PeeledAgain" 1 3 r_3:=ar_5 d9 ar6 as6 ar4 be2 λF=>⟨ad_3 d5 b6 l4 F d9,bn4 F⟩;have y9:lMk "OrderedAgain" 1 2 p_7:=ar_5 f6 aq0 ao9 aq2 be5 λF=>⟨ab_4 d5 b6 F f6,bn3 F⟩;have ad5:lMk "KeptAgain" 1 3 w_1:=ar_5 j0 av4 av2 av5 bg3 λF=>⟨ah_2 d5 b6 m6 F j0,bn4 F⟩;have aa4:lMk "MarkedAgain" 1 3 r_4:=ar_5 g8 at3 as4 ar7 bf1 λF=>⟨ad_4 d5 b6 m6 F g8,bn4 F⟩;have aj3:lT bh_9:=Bz X G bf3 λF=>⟨ci_7 l6 aa8 p6 z6 aa3 y9 ad5 aa4 F,bn7 F⟩;have z7:lT at_3:=Bz X G bg1 λF=>⟨bl_3 aj3 F,Co F⟩;have f7:lMt 2 0 "table" J11:=(Bs y0 (Bs u9 (Bs aa9 (Bs x9 mtn))));have u0:lMt 7 1 "value" [("KeptAgain",d_8)]:=(Bs aa5 mtn);exact eb_6 (ef_0 (P:=l.prog) (w:=w) (base:=base) j8 l9 o9 p9 j6 ak3 y7 aj8 z9 q8 z7 f7 u0 be3) dl_8
end My


open PySem PySem.W PyProof.Rows
set_option maxRecDepth 100000 in
set_option maxHeartbeats 0 in
theorem PySem.Challenge.cw_lodge_k58_made_again_holds : PySem.Challenge.rw_lodge_k58_made_again.Holds := by
 w_on; o_law; k_head; (case hw => w_witness2)
 k_fill
 refine L3.ei_6 (l := PySem.Challenge.rw_lodge_k58_made_again) (x := "_law_script") (k := 12) rfl rfl ⟨rfl, by decide, by decide⟩ (λw h Y => PySem.W.kIn_of Y) ?F
 case F =>
  intro w mg fa h KX G hmg
  refine' My.ef_1 KX G hmg ?c1 ?c2 ?c3 ?c4 ?c5 ?c6 ?c7 ?c8 ?c9 ?c10 ?c11 ?c12 ?c13 ?c14 ?c15 ?c16 ?c17 ?c18 ?c19 ?c20 ?c21 ?c22 ?c23 ?c24 ?c25 ?c26 ?c27 ?c28 ?c29 ?c30 ?c31 ?c32 ?c33 ?c34 ?c35 ?c36 ?c37 ?c38 ?c39 ?c40 ?c41 ?c42 ?c43 ?c44 ?c45 ?c46 ?c47 ?c48 ?c49 ?c50 ?c51 ?c52 ?c53 ?c54 ?c55 ?c56 ?c57 ?c58 ?c59 ?c60 ?c61 ?c62 ?c63 ?c64 ?c65 ?c66 ?c67 ?c68 ?c69 ?c70 ?c71 ?c72 ?c73 ?c74 ?c75 ?c76 ?c77 ?c78 ?c79 ?c80 ?c81 ?c82 ?c83 ?c84 ?c85 ?c86 ?c87 ?c88 ?c89 ?c90 ?c91 ?c92 ?c93 ?c94 ?c95 ?c96 ?c97 ?c98 ?c99 ?c100 ?c101 ?c102 ?c103 ?c104 ?c105 ?c106 ?c107 ?c108 ?c109 ?c110 ?c111 ?c112 ?c113 ?c114 ?c115 ?c116 ?c117 ?c118 ?c119 ?c120 ?c121 ?c122 ?c123 ?c124 ?c125 ?c126 ?c127 ?c128 ?c129 ?c130 ?c131 ?c132 ?c133 ?c134 ?c135 ?c136 ?c137 ?c138 ?c139 ?c140 ?c141 ?c142 ?c143 ?c144 ?c145 ?c146 ?c147 ?c148 ?c149 ?c150 ?c151 ?c152 ?c153 ?c154 ?c155 ?c156 ?c157 ?c158 ?c159 ?c160 ?c161 ?c162 ?c163 ?c164 ?c165 ?c166 ?c167 ?c168 ?c169 ?c170 ?c171 ?c172 ?c173 ?c174 ?c175 ?c176 ?c177 ?c178 ?c179 ?c180 ?c181 ?c182 ?c183 ?c184 ?c185 ?c186 ?c187 ?c188 ?c189 ?c190 ?c191 ?c192 ?c193 ?c194 ?c195 ?c196 ?c197 ?c198 ?c199 ?c200 ?c201 ?c202 ?c203 ?c204 ?c205 ?c206 ?c207 ?c208 ?c209 ?c210 ?c211 ?c212 ?c213 ?c214 ?c215 ?c216 ?c217 ?c218 ?c219 ?c220 ?c221 ?c222 ?c223 ?c224 ?c225 ?c226 ?c227 ?c228 ?c229 ?c230 ?c231 ?c232 ?c233 ?c234 ?c235 ?c236 ?c237 ?c238 ?c239 ?c240 ?c241 ?c242 ?c243 ?c244 ?c245 ?c246 ?c247 ?c248 ?c249 ?c250 ?c251 ?c252 ?c253 ?c254 ?c255 ?c256 ?c257 ?c258 ?c259 ?c260 ?c261 ?c262 ?c263 ?c264 ?c265 ?c266 ?c267 ?c268 ?c269 ?c270 ?c271 ?c272 ?c273 ?c274 ?c275 ?c276 ?c277 ?c278 ?c279 ?c280
  (case c1 | c2 | c4 | c5 | c11 | c13 | c14 | c18 | c20 | c21 | c24 | c26 | c27 | c31 | c33 | c34 | c38 | c40 | c41 | c45 | c47 | c48 | c51 | c53 | c54 | c58 | c60 | c61 | c181 | c182 | c183 | c184 | c185 | c186 | c187 | c188 | c189 | c190 | c191 | c192 | c193 | c194 | c195 | c196 | c197 | c198 | c217 | c218 | c219 | c220 | c221 | c222 | c223 | c224 | c225 | c226 | c227 | c228 => k_is)
  (case c3 | c12 | c19 | c25 | c32 | c39 | c46 | c52 | c59 => (refine' L2.Cls.mk ?z0 ?z1 ?z2 ?z3; (case z0 => k_is); (case z1 => k_is); (case z2 => k_is); (case z3 => k_is)))
  (case c6 | c7 | c8 | c9 | c10 | c15 | c16 | c17 | c22 | c23 | c28 | c29 | c30 | c35 | c36 | c37 | c42 | c43 | c44 | c49 | c50 | c55 | c56 | c57 | c62 | c63 | c64 => (refine' L3.NoAttr.mk ?z0; (case z0 => k_is)))
  (case c65 | c66 | c67 | c68 | c69 | c70 | c71 | c72 | c73 | c74 | c75 | c76 | c77 | c78 | c79 | c80 | c81 | c82 | c83 | c84 | c85 | c86 | c87 | c88 | c89 | c90 | c91 | c92 | c93 | c94 | c96 | c97 | c102 | c103 | c105 | c107 | c108 | c129 | c164 | c165 | c166 | c167 | c168 | c169 | c170 | c171 | c172 | c173 | c174 | c179 | c180 => (refine' L3.FnTop.mk ?a ?l ?c ?k; (case a => k_is); (case l => k_is); (case c => k_is); (case k => k_is)))
  (case c95 | c99 | c101 | c104 | c106 | c109 | c110 | c111 | c112 | c113 | c114 | c115 | c116 | c117 | c118 | c119 | c120 | c121 | c122 | c123 | c124 | c125 | c126 | c127 | c128 | c130 | c131 | c132 | c133 | c134 | c135 | c136 | c137 | c138 | c139 | c140 | c141 | c142 | c143 | c144 | c145 | c146 | c147 | c148 | c149 | c150 | c151 | c152 | c153 | c154 | c155 | c156 | c157 | c158 | c159 | c160 | c161 | c162 | c163 | c175 | c176 | c177 | c178 => (refine' L3.FnMet.mk ?a ?l ?c ?k ?i; (case a => k_is); (case l => k_is); (case c => k_is); (case k => k_is); (case i => k_is)))
  (case c98 | c100 => (refine' L3.FnBase.mk ?s ?r ?a ?l ?c ?k; (case s => k_is); (case r => k_is); (case a => k_is); (case l => k_is); (case c => k_is); (case k => k_is)))
  (case c199 | c200 | c201 | c202 | c203 | c204 | c205 | c206 | c207 | c208 | c209 | c210 | c211 | c212 | c213 | c214 | c215 | c216 => kit_is)
  (case c229 | c234 | c239 | c244 | c249 | c254 | c259 | c264 => (refine' L3.OInst.mm ?z0 ?z1 ?z2 ?z3 ?z4 ?z5; (case z0 => k_is); (case z1 => k_is); (case z2 => k_is); (case z3 => k_is); (case z4 => k_is); (case z5 => k_is)))
  (case c230 | c231 | c232 | c233 | c235 | c236 | c237 | c238 | c240 | c241 | c242 | c243 | c245 | c246 | c247 | c248 | c250 | c251 | c252 | c253 | c255 | c256 | c257 | c258 | c260 | c261 | c262 | c263 | c265 | c266 | c267 | c268 => (refine' L3.KO.mk ?z0; (case z0 => kit_is)))
  (case c269 | c271 | c273 | c275 => (refine' L3.XB.mk ?z0 ?z1 ?z2 ?z3 ?z4 ?z5 ?z6 ?z7 ?z8 ?z9 ?z10 ?z11 ?z12 ?z13 ?z14; (case z0 => k_is); (case z1 => k_is); (case z2 => k_is); (case z3 => rfl); (case z4 => rfl); (case z5 => k_is); (case z6 => k_is); (case z7 => rfl); (case z8 => rfl); (case z9 => k_is); (case z10 => k_is); (case z11 => k_is); (case z12 => k_is); (case z13 => k_is); (case z14 => k_is)))
  (case c270 | c272 | c274 | c276 | c278 | c280 => kts_exm)
  (case c277 | c279 => (refine' L3.XB0 ?z0 ?z1 ?z2 ?z3 ?z4 ?z5 ?z6 ?z7 ?z8; (case z0 => k_is); (case z1 => k_is); (case z2 => rfl); (case z3 => rfl); (case z4 => k_is); (case z5 => k_is); (case z6 => rfl); (case z7 => rfl); (case z8 => k_is)))

end
