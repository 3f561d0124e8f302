import PyProof.Rows.All
import Wide.All
import OpenK.AllK
import Wide.FinOn
import Lean
import PyProof.EqAt
import PyProof.EqKinds
import PyProof.TupleCall
import PySem.Challenge.RW_lodge_k85_whole_values_and_strangers
set_option Elab.async false
set_option linter.all false
set_option maxRecDepth 100000
set_option genSizeOf false
namespace PySem.W.Fast
def tw10020494170554697504 := 0
def tw10066352409017457875 := 0
def tw10246005939146332482 := 0
def tw10534974473134551875 := 0
def tw10556920493911453042 := 0
def tw10626513385127573338 := 0
def tw10699274451534369201 := 0
def tw11024517328596450364 := 0
def tw11036550587172382956 := 0
def tw11230632913159265130 := 0
def tw11348590755142519871 := 0
def tw11360038176044964589 := 0
def tw11595481971402017034 := 0
def tw11613981835162715008 := 0
def tw11658993234201223626 := 0
def tw11868665359956228110 := 0
def tw11948799517770472349 := 0
def tw11957435687548052736 := 0
def tw119605363741690764 := 0
def tw11985535709875502563 := 0
def tw12019938832259068702 := 0
def tw12120064099606026351 := 0
def tw12278009274539917722 := 0
def tw12310100142276962346 := 0
def tw12316098718472177129 := 0
def tw12739354095895125853 := 0
def tw12783504767280404023 := 0
def tw12986205676474347714 := 0
def tw13013777312714827131 := 0
def tw13118901667549747273 := 0
def tw13171188710109553095 := 0
def tw13300472055793501658 := 0
def tw13324098167931963218 := 0
def tw13334172096697180533 := 0
def tw13355168544808694591 := 0
def tw13460015527484806015 := 0
def tw13471934826236070640 := 0
def tw13608094707879601604 := 0
def tw13664682744017879925 := 0
def tw13752349388011744610 := 0
def tw13896283374954320571 := 0
def tw13912607866206010132 := 0
def tw13944657664605599001 := 0
def tw14086862223489235755 := 0
def tw14189049665360419103 := 0
def tw14201660730215808520 := 0
def tw14242810887718862199 := 0
def tw14275770192953217297 := 0
def tw14292866833494386044 := 0
def tw14615777179234613099 := 0
def tw14677671212413468599 := 0
def tw15053604967471301856 := 0
def tw1522203198216548243 := 0
def tw15253283349657645281 := 0
def tw15339549263417487642 := 0
def tw15388458192086822027 := 0
def tw15395565926813720034 := 0
def tw15701616919866530788 := 0
def tw15906338731647562105 := 0
def tw1601679698893526039 := 0
def tw16043522164699770903 := 0
def tw1607849047543831229 := 0
def tw16121410113513734759 := 0
def tw16214646092650883453 := 0
def tw16297494176686362042 := 0
def tw16449899866828346022 := 0
def tw16699400403033810675 := 0
def tw16855304861134024733 := 0
def tw16923609386392541920 := 0
def tw17005490251784480881 := 0
def tw17136680455245076264 := 0
def tw17151773835476880797 := 0
def tw17198129863422337520 := 0
def tw17214685821020911881 := 0
def tw17336876552597499539 := 0
def tw17414145237002896028 := 0
def tw17420260465589994977 := 0
def tw17420861953020691219 := 0
def tw17499218795625097346 := 0
def tw17656801623383276820 := 0
def tw17977104127920217799 := 0
def tw18134936688671932139 := 0
def tw1814899898149970219 := 0
def tw18162635070228148263 := 0
def tw18340077177719165967 := 0
def tw18340830577651100974 := 0
def tw18353828364958137073 := 0
def tw1895567053030238238 := 0
def tw1920016769337805749 := 0
def tw2003526745095140257 := 0
def tw2055591393433832526 := 0
def tw2086546199377537973 := 0
def tw2109423777291789829 := 0
def tw2169789306593595062 := 0
def tw2239690917481930483 := 0
def tw2464875865276940456 := 0
def tw2468044167143115887 := 0
def tw2545793933738677203 := 0
def tw2555521973299731083 := 0
def tw266494767691758988 := 0
def tw3092212142578706565 := 0
def tw318967261670486535 := 0
def tw3323438346846796440 := 0
def tw3362849467056896277 := 0
def tw3370974211678867107 := 0
def tw3464935971805788585 := 0
def tw348094761404287584 := 0
def tw3666483268254615851 := 0
def tw3783734404583961698 := 0
def tw4012808481458335831 := 0
def tw4119830720504864951 := 0
def tw4190705636779097190 := 0
def tw4311166931053564693 := 0
def tw4501916103781532255 := 0
def tw46244567348119188 := 0
def tw4880363853354026950 := 0
def tw4901958633481896492 := 0
def tw5136491971325661524 := 0
def tw5169487412600449117 := 0
def tw5448336420890544236 := 0
def tw5542481524318243404 := 0
def tw557319753741636416 := 0
def tw5584813650859614961 := 0
def tw5699419391228112707 := 0
def tw5742315400938742049 := 0
def tw5810209475087506727 := 0
def tw5982597079519749728 := 0
def tw611614476429164972 := 0
def tw6205341850938997408 := 0
def tw6324875369607656601 := 0
def tw6452974162619670263 := 0
def tw647673349666271607 := 0
def tw6576041604930107309 := 0
def tw660811352760949085 := 0
def tw6695888647119954666 := 0
def tw6711048499400331442 := 0
def tw6816936177420420018 := 0
def tw6887467310091180973 := 0
def tw6895033691901714262 := 0
def tw6987553807654245238 := 0
def tw7011565293171495012 := 0
def tw7065950951879986106 := 0
def tw7074657040942994696 := 0
def tw7075788964794464272 := 0
def tw714890974537242532 := 0
def tw7271384301522589010 := 0
def tw746011595365067536 := 0
def tw7505152978402991419 := 0
def tw7639754952803730024 := 0
def tw7668051700773379858 := 0
def tw7746211488207371279 := 0
def tw776239563281439935 := 0
def tw7908722249896035605 := 0
def tw7980089195112188246 := 0
def tw802483636854233829 := 0
def tw8094706052126231888 := 0
def tw8225567362383524877 := 0
def tw8248261748174769422 := 0
def tw8309284029809437096 := 0
def tw8361014604049476020 := 0
def tw8405199273875208721 := 0
def tw8415232739555798574 := 0
def tw843804892173944828 := 0
def tw8574312962170698946 := 0
def tw868330392320742284 := 0
def tw8742723931700291367 := 0
def tw894772173478036791 := 0
def tw9130727433692359452 := 0
def tw921822429196543217 := 0
def tw922960793088073499 := 0
def tw9413357810329826648 := 0
def tw9642314792367150628 := 0
def tw9684645203186363675 := 0
def tw9758116243794172537 := 0
def tw9814542252284699988 := 0
def tw9815294799774618254 := 0
def tw9827282845497387481 := 0
def tw9920527183189822018 := 0
end PySem.W.Fast
noncomputable section
open PySem.W (Frag InitBack InstAt Looks any_some bind_fn callWith_K callWith_K0 cellsFrom_some check_slot clsIn codeIn codeRec_of emptyDict eq_bytes exmOne exm_one findCls findIn findObj_own fnOf get_value handedIn hasDictIn hideAll hideAll_get hideAll_none hideAll_size instObj isFn kdl_call kdl_dict keepIn ki_setAt ki_setBack kia_one kitOne kitx_bool kitx_int kitx_list kitx_none kitx_own kitx_str kitx_tuple lookIn looks_clsIn looks_findIn looks_mroIn make_core makesIn makes_of methodCall_KW methodObj method_fn mg_none_of mg_of mroIn ne_bytes nsIn of_hideAll osa_eq osa_open plainGet plainGet_of plainOver readsIn set_plain specialIn takerIn takesIn truthy_bytes typeIn)
local macro_rules
 | `(tactic| simp_arith [$xs,*] $[$l:location]?) => `(tactic| simp only [Nat.reduceAdd, Nat.reduceSub, Nat.reduceLeDiff, ↓reduceIte, reduceCtorEq, $xs,*] $[$l:location]?)
namespace L2
open PySem PySem.Spec PyProof.Rows
abbrev Key:=Sum Int Str
def bf_1:Key→Value→Bool
 | .inl k,v=>Value.isInt k v
 | .inr x,v=>Value.isStrOf x v
def keyH(w:World):Key→Int
 | .inl k=>hashInt k
 | .inr x=>hashStr w x
theorem g_9:∀{k:Key} {v:Value},bf_1 k v=true→(∃i t,k=Sum.inl i∧v=Value.int i t)∨(∃x t,k=Sum.inr x∧v=Value.str x t)
 | .inl i,v,h=>by
  obtain⟨t,e⟩:=Value.isInt_shape (k:=i) (v:=v) h;exact .inl ⟨i,t,rfl,e⟩
 | .inr x,v,h=>by
  obtain⟨t,e⟩:=Value.isStrOf_shape (x:=x) (v:=v) h;exact .inr ⟨x,t,rfl,e⟩
theorem cm_0(i:Int)(t:Tok):bf_1 (.inl i) (.int i t)=true:=by simp [bf_1,Value.isInt]
theorem cm_1(x:Str)(t:Tok):bf_1 (.inr x) (.str x t)=true:=by simp [bf_1,Value.isStrOf]
theorem do_1(a b:Int):decide ((Sum.inl a:Key)=Sum.inl b)=(a ==b):=by
 by_cases e:a=b
 ·subst e;simp
 ·have h:¬(Sum.inl a:Key)=Sum.inl b:=fun q=>e (Sum.inl.inj q);rw [decide_eq_false h];exact(beq_eq_false_iff_ne.mpr e).symm
theorem do_2(a b:Str):decide ((Sum.inr a:Key)=Sum.inr b)=decide (a=b):=by
 by_cases e:a=b
 ·subst e;simp
 ·have h:¬(Sum.inr a:Key)=Sum.inr b:=fun q=>e (Sum.inr.inj q);rw [decide_eq_false h,decide_eq_false e]
theorem do_3(a:Int)(b:Str):decide ((Sum.inl a:Key)=Sum.inr b)=false:=decide_eq_false (fun q=>nomatch q)
theorem do_4(a:Str)(b:Int):decide ((Sum.inr a:Key)=Sum.inl b)=false:=decide_eq_false (fun q=>nomatch q)
def g_5(prog:Program)(w:World):PySem.KeyKind prog w Key where
 is:=bf_1
 hash:=keyH w
 inj:=fun v a b ha hb=>by
  rcases g_9 ha with⟨i,t,rfl,rfl⟩|⟨x,t,rfl,rfl⟩
  ·rcases g_9 hb with⟨j,u,rfl,e⟩|⟨y,u,rfl,e⟩
   ·injection e with e1 _;rw [e1]
   ·exact nomatch e
  ·rcases g_9 hb with⟨j,u,rfl,e⟩|⟨y,u,rfl,e⟩
   ·exact nomatch e
   ·injection e with e1 _;rw [e1]
 byValue:=fun k v h=>by
  rcases g_9 h with⟨i,t,rfl,rfl⟩|⟨x,t,rfl,rfl⟩ <;> rfl
 pyHash:=fun hv h=>by
  rcases g_9 hv with⟨i,t,rfl,rfl⟩|⟨x,t,rfl,rfl⟩
  ·exact wpAny_pyHash_int h
  ·exact wpAny_pyHash_str h
 eqBool:=fun hu hv h=>by
  rcases g_9 hu with⟨i,t,rfl,rfl⟩|⟨x,t,rfl,rfl⟩
  ·rcases g_9 hv with⟨j,u,rfl,rfl⟩|⟨y,u,rfl,rfl⟩
   ·rw [do_1] at h;exact wpAny_eqBool_int h
   ·rw [do_3] at h;exact SeqAt.EqAt.int_str i t y u _ _ _ _ h
  ·rcases g_9 hv with⟨j,u,rfl,rfl⟩|⟨y,u,rfl,rfl⟩
   ·rw [do_4] at h;exact SeqAt.EqAt.str_int x t j u _ _ _ _ h
   ·rw [do_2] at h;exact wpAny_eqBool_str h
 «strs»:=fun k x t v h=>by
  rcases g_9 h with⟨i,u,rfl,e⟩|⟨y,u,rfl,e⟩
  ·exact nomatch e
  ·injection e with e1 _
   subst e1;cases v <;> rfl
theorem bs_6(prog:Program)(w:World)(i:Int)(t:Tok):(g_5 prog w).is (.inl i) (.int i t)=true:=cm_0 i t
theorem bs_7(prog:Program)(w:World)(x:Str)(t:Tok):(g_5 prog w).is (.inr x) (.str x t)=true:=cm_1 x t
inductive V where
 |non|bl (b:Bool)|int (i:Int)|str (x:Str)|byt (b:Array UInt8)|flt (b:UInt64)|ref (a:Addr)|ty (n:String)
 deriving DecidableEq
def RelV:V→Value→Prop
 | .non,u=>u=Value.none
 | .bl b,u=>u=Value.bool b
 | .int i,u=>∃t,u=Value.int i t
 | .str x,u=>∃t,u=Value.str x t
 | .byt b,u=>∃t,u=Value.bytes b t
 | .flt b,u=>∃t,u=Value.float b t
 | .ref a,u=>u=Value.ref a
 | .ty n,u=>u=Value.type n
abbrev Vals:List V→List Value→Prop:=Paired RelV
theorem Vals.length{xs:List V}{us:List Value}(r:Vals xs us):xs.length=us.length:=Paired.length r
theorem Vals.get:∀{xs:List V} {us:List Value} {i:Nat} {x:V},Vals xs us→xs[i]? =some x→∃u,us[i]? =some u∧RelV x u
 |_,_,_,_, .nil,e=>by simp at e
 |_,_,0,_, .cons r _,e=>by simp at e;subst e;exact⟨_,rfl,r⟩
 |_,_,i + 1,x, .cons _ t,e=>by
  obtain⟨u,h1,h2⟩:=Vals.get (i:=i) (x:=x) t (by simpa using e);exact⟨u,by simpa using h1,h2⟩
theorem Vals.set{x:V}{u:Value}(r:RelV x u):∀{xs:List V} {us:List Value} (i:Nat),Vals xs us→Vals (xs.set i x) (us.set i u)
 |_,_,_, .nil=> .nil
 |_,_,0, .cons _ t=> .cons r t
 |_,_,i + 1, .cons q t=> .cons q (Vals.set r i t)
theorem Vals.append:∀{xs ys:List V} {us ws:List Value},Vals xs us→Vals ys ws→Vals (xs ++ ys) (us ++ ws)
 |_,_,_,_, .nil,s=>s
 |_,_,_,_, .cons r t,s=> .cons r (Vals.append t s)
theorem Vals.take:∀{xs:List V} {us:List Value} (n:Nat),Vals xs us→Vals (xs.take n) (us.take n)
 |_,_,0,_=> .nil
 |_,_,_ + 1, .nil=> .nil
 |_,_,n + 1, .cons r t=> .cons r (Vals.take n t)
theorem Vals.drop:∀{xs:List V} {us:List Value} (n:Nat),Vals xs us→Vals (xs.drop n) (us.drop n)
 |_,_,0,r=>r
 |_,_,_ + 1, .nil=> .nil
 |_,_,n + 1, .cons _ t=>Vals.drop n t
def RelO:Option V→Option Value→Prop
 |some v,some u=>RelV v u
 |none,none=>True
 |_,_=>False
def KV{κ:Type}:List (κ×V)→List (κ×Value)→Prop:=Paired fun(p:κ×V) (q:κ×Value)=>p.1=q.1∧RelV p.2 q.2
def kV:Key→V
 | .inl i=> .int i
 | .inr x=> .str x
inductive HO where
  |lst (xs:List V)
  |tup (xs:List V)
  |dK (kvs:List (Key×V))|dT (kvs:List (List Key×V))
  |set (S:Int→Bool) (n:Nat)
  |ins (C dx:Addr) (fs:List (Str×V))
  |own (x:Addr)
  |xd (fs:List (Str×V))
  |met (f x:Addr)
  |rng (lo hi:Int)
  |frz (o:Obj) (u:HO)
  |tbl (ps:Array Value)
  |ext (φ:Heap→Prop)
abbrev Hp:=Addr→Option HO
def upd(H:Hp)(a:Addr)(o:HO):Hp:=fun b=>if b=a then some o else H b
theorem b_3{H:Hp}{a:Addr}{o:HO}:upd H a o a=some o:=by unfold upd;rw [if_pos rfl]
theorem b_0{H:Hp}{a b:Addr}{o:HO}(h:b≠a):upd H a o b=H b:=by unfold upd;rw [if_neg h]
theorem dv_1{H:Hp}{a b:Addr}{o u:HO}(h:H a=some o)(h':H b=some u)(d:o≠u):a≠b:=by
 intro e;subst e;rw [h] at h';exact d (Option.some.inj h')
theorem d_5{H:Hp}{a b:Addr}{o:HO}(h:H a=some o)(h':H b=none):a≠b:=by
 intro e;subst e;rw [h] at h';cases h'
section
variable(P:Program)(w:World)
def ObjOk(H:Hp)(h:Heap)(a:Addr):HO→Prop
 | .lst xs=>xs.length≤sizeLine∧∃(its:List Value) (n:Nat),Vals xs its∧h.get? a=some {cls:= .type "list",data:= .seq its.toArray n}
 | .tup xs=>xs.length≤sizeLine∧∃its:List Value,Vals xs its∧IsTup h a its.toArray
 | .dK kvs=>kvs.length≤sizeLine∧(a ==sysModules)=false∧∃vs,KV kvs vs∧h.DictOf (g_5 P w) a vs
 | .dT kvs=>kvs.length≤sizeLine∧(a ==sysModules)=false∧∃xs:List (List Key×Addr×Value),
   Paired (fun(p:List Key×V) (q:List Key×Addr×Value)=>p.1=q.1∧H q.2.1=some (.tup (p.1.map kV))∧RelV p.2 q.2.2) kvs xs∧
   ∃o es ep,h.get? a=some o∧o.ExactDict∧o.data= .dict es ep∧es.toList=xs.map (entryOfKey (tupleKind (g_5 P w)))∧(xs.map (·.1)).Nodup
 | .set S n=>h.SetOf (intKind P w) a S n
 | .ins C dx fs=>H dx=some (.own a)∧fs.length≤1000∧dx≠a∧h.get? a=some (instObj C dx)∧
   ∃mA,h.Ns1 dx mA∧(∀f,RelO (fs.lookup f) (mA f))∧PySem.Within mA (fs.map (·.1))
 | .own _=>∃o,h.get? a=some o
 | .xd fs=>∃mA,h.Ns1 a mA∧∀f,RelO (fs.lookup f) (mA f)
 | .rng lo hi=>∃t u v,h.get? a=some {cls:= .type "range",data:= .fields #[.int lo t, .int hi u, .int 1 v]}
 | .frz o u=>h.get? a=some o∧ObjOk H h a u
 | .tbl ps=>h.get? a=some {cls:= .none,data:= .fields ps}
 | .met f x=>h.get? a=some (methodObj (.ref f) (.ref x))
 | .ext φ=>φ h∧(∃o,h.get? a=some o)∧∀h1 h2:Heap,φ h1→(∀o,h1.get? a=some o→h2.get? a=some o)→φ h2
def HOk(H:Hp)(h:Heap):Prop:=∀a o,H a=some o→ObjOk P w H h a o
end
section
variable{P:Program}{w:World}{H H':Hp}{h h':Heap}{a:Addr}{o:HO}
theorem ObjOk.lt(x:ObjOk P w H h a o):a < h.objs.size:=by
 cases o with
 |lst xs=>obtain⟨_,_,_,_,e⟩:=x;exact Heap.lt_size e
 |tup xs=>obtain⟨_,_,_,p⟩:=x;exact p.lt
 |dK kvs=>obtain⟨_,_,_,_,o,_,_,e,_⟩:=x;exact Heap.lt_size e
 |dT kvs=>obtain⟨_,_,_,_,o,_,_,e,_⟩:=x;exact Heap.lt_size e
 |set S n=>obtain⟨o,_,_,_,e,_⟩:=x;exact Heap.lt_size e
 |ins C dx fs=>obtain⟨_,_,_,e,_⟩:=x;exact Heap.lt_size e
 |own y=>obtain⟨_,e⟩:=x;exact Heap.lt_size e
 |xd fs=>obtain⟨_,⟨_,_,_,e,_⟩,_⟩:=x;exact Heap.lt_size e
 |rng lo hi=>obtain⟨_,_,_,e⟩:=x;exact Heap.lt_size e
 |frz ob u=>obtain⟨e,_⟩:=x;exact Heap.lt_size e
 |tbl ps=>exact Heap.lt_size (show h.get? a=some _ from x)
 |met f y=>exact Heap.lt_size (show h.get? a=some _ from x)
 |ext φ=>obtain⟨_,⟨_,e⟩,_⟩:=x;exact Heap.lt_size e
theorem Paired.mapP{α β:Type}{F G:α→β→Prop}:∀{l₁:List α} {l₂:List β},Paired F l₁ l₂→(∀a b,F a b→G a b)→Paired G l₁ l₂
 |_,_, .nil,_=> .nil
 |_,_, .cons r t,f=> .cons (f _ _ r) (Paired.mapP t f)
theorem ObjOk.stay(x:ObjOk P w H h a o)(k:∀b u,(b=a∨H b=some (.own a))→h.get? b=some u→h'.get? b=some u)
  (ho:∀b,H b=some (.own a)→H' b=some (.own a)) (ht:∀b xs,H b=some (.tup xs)→H' b=some (.tup xs)):ObjOk P w H' h' a o:=by
 induction o with
 |lst xs=>obtain⟨z,its,n,r,e⟩:=x;exact⟨z,its,n,r,k _ _ (.inl rfl) e⟩
 |tup xs=>obtain⟨z,its,r,ob,e,c⟩:=x;exact⟨z,its,r,ob,k _ _ (.inl rfl) e,c⟩
 |dK kvs=>obtain⟨z,y,vs,r,ob,es,ep,e,c⟩:=x;exact⟨z,y,vs,r,ob,es,ep,k _ _ (.inl rfl) e,c⟩
 |dT kvs=>
  obtain⟨z,y,xs,r,ob,es,ep,e,c⟩:=x;exact⟨z,y,xs,Paired.mapP r fun p q z=>⟨z.1,ht _ _ z.2.1,z.2.2⟩,ob,es,ep,k _ _ (.inl rfl) e,c⟩
 |set S n=>obtain⟨ob,es,ep,t,e,c⟩:=x;exact⟨ob,es,ep,t,k _ _ (.inl rfl) e,c⟩
 |ins C dx fs=>
  obtain⟨d,z,ne,e,mA,⟨od,es,ep,e2,c⟩,r⟩:=x;exact⟨ho _ d,z,ne,k _ _ (.inl rfl) e,mA,⟨od,es,ep,k _ _ (.inr d) e2,c⟩,r⟩
 |own y=>obtain⟨ob,e⟩:=x;exact⟨ob,k _ _ (.inl rfl) e⟩
 |xd fs=>obtain⟨mA,⟨od,es,ep,e,c⟩,r⟩:=x;exact⟨mA,⟨od,es,ep,k _ _ (.inl rfl) e,c⟩,r⟩
 |rng lo hi=>obtain⟨t,u,v,e⟩:=x;exact⟨t,u,v,k _ _ (.inl rfl) e⟩
 |frz ob u ih=>obtain⟨e,q⟩:=x;exact⟨k _ _ (.inl rfl) e,ih q⟩
 |tbl ps=>
  have e:h.get? a=some {cls:= .none,data:= .fields ps}:=x;show h'.get? a=some {cls:= .none,data:= .fields ps};exact k a _ (.inl rfl) e
 |met f y=>
  have e:h.get? a=some (methodObj (.ref f) (.ref y)):=x;show h'.get? a=some (methodObj (.ref f) (.ref y));exact k a _ (.inl rfl) e
 |ext φ=>obtain⟨p,⟨o,e⟩,st⟩:=x;exact⟨st _ _ p fun o q=>k _ _ (.inl rfl) q,⟨o,k _ _ (.inl rfl) e⟩,st⟩
theorem HOk.lt(x:HOk P w H h)(e:H a=some o):a < h.objs.size:=(x a o e).lt
theorem HOk.fresh(x:HOk P w H h)(e:h.objs.size≤a):H a=none:=by
 cases q:H a with
 |none=>rfl
 |some u=>exact absurd (Nat.lt_of_lt_of_le (x.lt q) e) (Nat.lt_irrefl _)
theorem HOk.kept(x:HOk P w H h)(k:∀b u,h.get? b=some u→h'.get? b=some u):HOk P w H h':=fun a o e=>
 (x a o e).stay (fun b u _ q=>k b u q) (fun _ q=>q) fun _ _ q=>q
theorem HOk.laid(x:HOk P w H h)(k:∀b u,h.get? b=some u→h'.get? b=some u)(hp:h.objs.size≤a)(new:ObjOk P w (upd H a o) h' a o):HOk P w (upd H a o) h':=fun b u e=>by
 have hn:=x.fresh hp
 by_cases hb:b=a
 ·subst hb;rw [b_3] at e;cases e;exact new
 ·rw [b_0 hb] at e;exact(x b u e).stay (fun c v _ q=>k c v q) (fun c q=>by rw [b_0 (d_5 q hn)];exact q) fun c xs q=>by rw [b_0 (d_5 q hn)];exact q
end
def Rd(H:Hp)(a:Addr)(u:HO):Prop:=H a=some u∨∃o,H a=some (.frz o u)
theorem Rd.ok{P:Program}{w:World}{H:Hp}{h:Heap}{a:Addr}{u:HO}(r:Rd H a u)(x:HOk P w H h):ObjOk P w H h a u:=by
 rcases r with r|⟨o,r⟩
 ·exact x a u r
 ·obtain⟨_,q⟩:=x a _ r;exact q
def Mut:Option HO→Prop
 |some (.lst _)=>True
 |some (.dK _)=>True
 |some (.dT _)=>True
 |some (.set _ _)=>True
 |some (.ins _ _ _)=>True
 |some (.ext _)=>True
 |_=>False
section
variable{P:Program}{w:World}{H:Hp}{h h':Heap}{x e:Addr}{o':HO}
theorem HOk.write(ok:HOk P w H h)(mu:Mut (H x))(he:e=x∨H e=some (.own x))(k:∀b u,b≠e→h.get? b=some u→h'.get? b=some u)(heo:∃u,h'.get? e=some u)
  (new:ObjOk P w (upd H x o') h' x o'):HOk P w (upd H x o') h':=fun b u q=>by
 have cw:∀c y,H c=some (.own y)→c≠x:=fun c y r z=>by subst z;rw [r] at mu;exact mu
 have fm:∀c xs,H c=some (.tup xs)→c≠x:=fun c xs r z=>by subst z;rw [r] at mu;exact mu
 by_cases hb:b=x
 ·subst hb;rw [b_3] at q;cases q;exact new
 ·rw [b_0 hb] at q
  by_cases hbe:b=e
  ·have q':H b=some (.own x):=by
    rcases he with z|z
    ·exact absurd (hbe.trans z) hb
    ·rw [hbe];exact z
   rw [q] at q';cases q';obtain⟨v,hv⟩:=heo;exact⟨v,by rw [hbe];exact hv⟩
  ·refine(ok b u q).stay (fun c v hc r=>k c v ?_ r) (fun c r=>by rw [b_0 (cw c b r)];exact r) fun c xs r=>by rw [b_0 (fm c xs r)];exact r
   rcases hc with rfl|hc
   ·exact hbe
   ·rintro rfl
    rcases he with z|z
    ·exact cw c b hc z
    ·rw [hc] at z;cases z;exact hb rfl
end
structure Un(fs ex:List Addr)(H H':Hp)(h h':Heap):Prop where
 keep:∀b o,h.get? b=some o→H b=none→b∉fs→b∉ex→h'.get? b=some o
 slot:∀b o,h.get? b=some o→H b=none→b∈fs→b∉ex→∃sl,h'.get? b=some {o with slots:=sl}
 free:∀b o,h.get? b=some o→H b=none→b∉ex→H' b=none
 there:∀b o,h.get? b=some o→b∉ex→∃o',h'.get? b=some o'
 tups:∀b xs,H b=some (.tup xs)→H' b=some (.tup xs)
 frzs:∀b o u,H b=some (.frz o u)→H' b=some (.frz o u)
 tbls:∀b ps,H b=some (.tbl ps)→∃more,H' b=some (.tbl (ps ++ more))
section
variable{fs fs' ex ex':List Addr}{H H1 H2:Hp}{h h1 h2 h':Heap}{a x e:Addr}{o:HO}
theorem Un.any(u:Un fs ex H H1 h h1){b:Addr}{ob:Obj}(q:h.get? b=some ob)(n:H b=none)(hx:b∉ex):∃sl,h1.get? b=some {ob with slots:=sl}:=by
 by_cases hb:b∈fs
 ·exact u.slot b ob q n hb hx
 ·exact⟨ob.slots,u.keep b ob q n hb hx⟩
theorem Un.kept(k:∀b u,h.get? b=some u→h'.get? b=some u):Un fs ex H H h h':=
 ⟨fun b ob q _ _ _=>k b ob q,fun b ob q _ _ _=>⟨ob.slots,k b ob q⟩,fun _ _ _ n _=>n,fun b ob q _=>⟨ob,k b ob q⟩,fun _ _ q=>q,fun _ _ _ q=>q,fun _ ps q=>⟨#[],by rw [q];simp⟩⟩
theorem Un.refl:Un fs ex H H h h:=Un.kept fun _ _ q=>q
theorem Un.laid(k:∀b u,h.get? b=some u→h'.get? b=some u)(hp:h.objs.size≤a)(hn:H a=none):Un fs ex H (upd H a o) h h' where
 keep:=fun b u q _ _ _=>k b u q
 slot:=fun b u q _ _ _=>⟨u.slots,k b u q⟩
 free:=fun b u q n _=>by rw [b_0 (Nat.ne_of_lt (Nat.lt_of_lt_of_le (Heap.lt_size q) hp))];exact n
 there:=fun b u q _=>⟨u,k b u q⟩
 tups:=fun b xs q=>by rw [b_0 (d_5 q hn)];exact q
 frzs:=fun b u xs q=>by rw [b_0 (d_5 q hn)];exact q
 tbls:=fun b ps q=>⟨#[],by rw [b_0 (d_5 q hn),q];simp⟩
theorem Un.write(mu:Mut (H x))(he:e=x∨H e=some (.own x))(k:∀b u,b≠e→h.get? b=some u→h'.get? b=some u)(heo:∃u,h'.get? e=some u):Un fs ex H (upd H x o) h h':=by
 have hx:∀b,H b=none→b≠x:=fun b n z=>by subst z;rw [n] at mu;exact mu
 have hb:∀b,H b=none→b≠e:=fun b n z=>by
  subst z;rcases he with r|r
  ·exact hx b n r
  ·rw [n] at r;cases r
 have hm:∀b u,H b=some u→¬Mut (some u)→b≠x:=fun b u q nm z=>by subst z;rw [q] at mu;exact nm mu
 refine⟨fun b u q n _ _=>k b u (hb b n) q,fun b u q n _ _=>⟨u.slots,k b u (hb b n) q⟩,fun b u q n _=>by rw [b_0 (hx b n)];exact n,fun b u q _=> ?_,
  fun b xs q=>by rw [b_0 (hm b _ q fun z=>z)];exact q,fun b u xs q=>by rw [b_0 (hm b _ q fun z=>z)];exact q,fun b ps q=>⟨#[],by rw [b_0 (hm b _ q fun z=>z),q];simp⟩⟩
 by_cases hbe:b=e
 ·subst hbe;exact heo
 ·exact⟨u,k b u hbe q⟩
end
def trk(h:Heap)(H:Hp):List Addr:=(List.range h.objs.size).filter fun a=>(H a).isSome
def hidT(h:Heap)(H:Hp):Heap:=hideAll h (trk h H)
theorem cm_2(h:Heap)(H:Hp):(hidT h H).objs.size=h.objs.size:=hideAll_size _ _
theorem cs_6{h:Heap}{H:Hp}{b:Addr}{o:Obj}(e:h.get? b=some o)(n:H b=none):(hidT h H).get? b=some o:=
 hideAll_get _ e fun hm=>by
  have q:(H b).isSome=true:=(List.mem_filter.mp hm).2;rw [n] at q;simp at q
theorem de_4{h:Heap}{H:Hp}{b:Addr}{o:Obj}(e:(hidT h H).get? b=some o):h.get? b=some o∧H b=none:=by
 have e':h.get? b=some o:=of_hideAll (trk h H) e;refine⟨e', ?_⟩;cases q:H b with
 |none=>rfl
 |some x=>
  have hm:b∈trk h H:=List.mem_filter.mpr ⟨List.mem_range.mpr (Heap.lt_size e'),by simp [q]⟩;have z:(hidT h H).get? b=none:=hideAll_none (trk h H) hm;rw [z] at e;cases e
structure Mod(K:Frag)(mg:Str→Option Value)(base:Heap):Prop where
 kin:K.In base
 glob:base.Ns mainGlobals mg
 blt:∃mb,base.Ns builtinsNs mb∧∀x:Str,x≠ "__name__" →mb x=bootBuiltins x
 nolimit:base.NoLimit
structure Cx where
 prog:Program
 w:World
 K:Frag
 mg:Str→Option Value
 base:Heap
 A:Around
 N:List Str
 s₀:Shared
 H₀:Hp
 env:Env
 outer:List Env
 stack:List Env
 ex:List Addr
 fn:Str→Bool
 calm:Bool
 pn:List (Addr×Obj)
 xe:Value→Shared→Prop
def frs(l:List Env):List Addr:=l.filterMap (·.frame)
abbrev Cx.fs(X:Cx):List Addr:=frs X.outer
def Vis(sc:Scope)(x:Str):Prop:=sc.names.lookup x=some .local∨sc.names.lookup x=some .cell∨sc.names.lookup x=some .free
def Loc(sc:Scope)(x:Str):Prop:=sc.names.lookup x=some .local∨sc.names.lookup x=some .cell
def Look(env:Env)(h:Heap)(m:Str→Option Value)(x:Str)(u:Value):Prop:=
 (env.kindOf x=some .local∧m x=some u)∨((env.kindOf x=some .cell∨env.kindOf x=some .free)∧∃c,env.cells.lookup x=some c∧h.IsCell c (some u))
structure Cx.Ok(X:Cx):Prop where
 mod:Mod X.K X.mg X.base
 kind:X.env.scope.kind= .function
 glob:X.env.globals=mainGlobals
 blt:X.env.builtins=builtinsNs
 above:X.s₀.heap.objs.size≤X.env.locals
 inj:∀x y c,X.env.cells.lookup x=some c→X.env.cells.lookup y=some c→x=y
 has:∀x,(X.env.kindOf x=some .cell∨X.env.kindOf x=some .free)→∃c,X.env.cells.lookup x=some c
 cab:∀x c,X.fn x=true→X.env.cells.lookup x=some c→X.s₀.heap.objs.size≤c
 hd:X.calm=true→X.A.handled=none
 frames:X.A.frames=some X.stack
 stk:X.stack=X.outer∨(X.stack=X.env::X.outer∧X.env.frame=some X.env.locals)
 exf:∀b∈X.ex,b≠X.env.locals∧∀x c,X.env.cells.lookup x=some c→c≠b
 bs:∀b o,X.base.get? b=some o→X.s₀.heap.get? b=some o∧X.H₀ b=none
 bsz:X.base.objs.size≤X.s₀.heap.objs.size
 noex:∀b o,X.base.get? b=some o→b∉X.ex
 exfs:∀b∈X.ex,b∉X.fs
 funs:X.s₀.heap.FunFrames X.base X.outer
 frf:∀b∈X.fs,X.H₀ b=none
structure Inv(X:Cx)(zc:List (Addr×Obj))(σ:List (Option V))(H:Hp)(s:Shared):Prop where
 ok:X.Ok
 os:s.os=X.s₀.os
 bare:AllBare s.gens
 base:Un X.fs X.ex X.H₀ H X.s₀.heap s.heap
 loc:∃m,s.heap.Ns X.env.locals m∧∀(i:Nat) (x:Str) (v:V),X.N[i]? =some x→σ[i]? =some (some v)→Vis X.env.scope x→∃u,RelV v u∧Look X.env s.heap m x u
 cell:∀x c,X.env.cells.lookup x=some c→∃v,s.heap.IsCell c v
 free:H X.env.locals=none
 freeC:∀x c,X.env.cells.lookup x=some c→H c=none
 pin:∀p∈X.pn ++ zc,s.heap.get? p.1=some p.2∧H p.1=none∧p.1≠X.env.locals∧p.1∉X.fs∧∀v,p.2.data≠ .cell v
 hok:HOk X.prog X.w H s.heap
 len:σ.length=X.N.length
section
variable{X:Cx}{zc:List (Addr×Obj)}{σ:List (Option V)}{H H':Hp}{s:Shared}{h':Heap}
theorem Cx.Ok.nofr(ok:X.Ok){b:Addr}{o:Obj}(e:X.base.get? b=some o):b∉X.fs:=fun hb=>by
 have:=(ok.funs.mem hb).1;rw [e] at this;cases this
theorem Inv.bs(I:Inv X zc σ H s):∀b o,X.base.get? b=some o→s.heap.get? b=some o∧H b=none:=fun b o e=>
 ⟨I.base.keep b o (I.ok.bs b o e).1 (I.ok.bs b o e).2 (I.ok.nofr e) (I.ok.noex b o e),I.base.free b o (I.ok.bs b o e).1 (I.ok.bs b o e).2 (I.ok.noex b o e)⟩
theorem Inv.bk(I:Inv X zc σ H s):∀b o,X.base.get? b=some o→s.heap.get? b=some o:=fun b o e=>(I.bs b o e).1
theorem Inv.mod(I:Inv X zc σ H s):Mod X.K X.mg X.base:=I.ok.mod
theorem Inv.kIn(I:Inv X zc σ H s):X.K.In s.heap:=I.ok.mod.kin.keeps I.bk
theorem Inv.nolimit(I:Inv X zc σ H s):s.heap.NoLimit:=I.ok.mod.nolimit.keeps I.bk
theorem Inv.fr(I:Inv X zc σ H s):∃m,Fr X.base X.env.locals s.heap m:=
 let⟨m,hn,_⟩:=I.loc
 ⟨m,hn,I.bk,Nat.le_trans I.ok.bsz I.ok.above⟩
theorem Inv.lt(I:Inv X zc σ H s):X.env.locals < s.heap.objs.size:=let⟨_,hn,_⟩:=I.loc;hn.lt
theorem Inv.sz(I:Inv X zc σ H s):X.s₀.heap.objs.size≤s.heap.objs.size:=Nat.le_trans I.ok.above (Nat.le_of_lt I.lt)
theorem Inv.nofs(I:Inv X zc σ H s){a:Addr}(h:s.heap.objs.size≤a):a∉X.fs:=fun hb=>by
 obtain⟨_,o,ho,_⟩:=I.ok.funs.mem hb;exact absurd (Nat.lt_of_lt_of_le (Heap.lt_size ho) (Nat.le_trans I.sz h)) (Nat.lt_irrefl _)
theorem Inv.cne(I:Inv X zc σ H s):∀x c,X.env.cells.lookup x=some c→c≠X.env.locals:=fun x c e z=>by
 obtain⟨v,o,ho,hd⟩:=I.cell x c e;obtain⟨m,⟨o',es,ep,ho',hd',_⟩,_⟩:=I.loc;rw [z,ho'] at ho;cases ho;rw [hd'] at hd;cases hd
theorem Inv.funs(I:Inv X zc σ H s):s.heap.FunFrames X.base X.outer:=by
 have all:∀(l:List Env),(∀b∈frs l,b∈X.fs)→X.s₀.heap.FunFrames X.base l→s.heap.FunFrames X.base l:=by
  intro l
  induction l with
  |nil=>intro _ _;trivial
  |cons env r ih=>
   intro hs hl;obtain⟨hk,⟨L,o,hf,hn,ho,hd⟩,hr⟩:=hl;have hL:L∈X.fs:=hs L (by unfold frs;rw [List.filterMap_cons,hf];exact List.mem_cons_self);obtain⟨sl,e⟩:=I.base.slot L o ho (I.ok.frf L hL) hL fun z=>I.ok.exfs L z hL;exact⟨hk,⟨L,_,hf,hn,e,hd⟩,ih (fun b hb=>hs b (by unfold frs;rw [List.filterMap_cons,hf];exact List.mem_cons_of_mem _ hb)) hr⟩
 exact all X.outer (fun _ hb=>hb) I.ok.funs
theorem Inv.stack(I:Inv X zc σ H s):s.heap.FunFrames X.base X.stack:=by
 rcases I.ok.stk with e|⟨e,hf⟩
 ·rw [e];exact I.funs
 ·rw [e];obtain⟨m,hn,_⟩:=I.loc;refine .cons (by rw [I.ok.kind];decide) hf hn ?_ I.funs;exact Heap.get?_none_of_le (Nat.le_trans I.ok.bsz I.ok.above)
theorem Inv.stkSub(I:Inv X zc σ H s):∀b∈frs X.stack,b∈X.env.locals::X.fs:=fun b hb=>by
 rcases I.ok.stk with e|⟨e,hf⟩
 ·rw [e] at hb;exact List.mem_cons_of_mem _ hb
 ·rw [e] at hb;unfold frs at hb;rw [List.filterMap_cons,hf] at hb;exact hb
theorem Inv.stkFree(I:Inv X zc σ H s):∀b∈frs X.stack,H b=none:=fun b hb=>by
 rcases List.mem_cons.mp (I.stkSub b hb) with e|hb
 ·rw [e];exact I.free
 ·obtain⟨_,o,ho,_⟩:=I.ok.funs.mem hb;exact I.base.free b o ho (I.ok.frf b hb) fun z=>I.ok.exfs b z hb
theorem Inv.step{g':Array GenState}{t':Nat}{d':Drawn}{ch:List Addr}(I:Inv X zc σ H s)
  (hch:∀b∈ch,(b∈X.ex∨X.s₀.heap.objs.size≤b)∧b≠X.env.locals∧(∀x c,X.env.cells.lookup x=some c→c≠b)∧∀p∈X.pn ++ zc,p.1≠b)
  (keep:∀b o,b≠X.env.locals→b∉X.fs→b∉ch→s.heap.get? b=some o→H b=none→h'.get? b=some o)
  (slot:∀b o,b≠X.env.locals→b∈X.fs→b∉ch→s.heap.get? b=some o→H b=none→∃sl,h'.get? b=some {o with slots:=sl}) (free:∀b o,b∉ch→s.heap.get? b=some o→H b=none→H' b=none)
  (there:∀b o,b∉ch→s.heap.get? b=some o→∃o',h'.get? b=some o')
  (tups:∀b xs,H b=some (.tup xs)→H' b=some (.tup xs)) (frzs:∀b o u,H b=some (.frz o u)→H' b=some (.frz o u)) (tbls:∀b ps,H b=some (.tbl ps)→∃more,H' b=some (.tbl (ps ++ more)))
  (ns:∀m,s.heap.Ns X.env.locals m→h'.Ns X.env.locals m) (hok:HOk X.prog X.w H' h') (hg:AllBare g'):
  Inv X zc σ H' {s with heap:=h',gens:=g',drawn:=d',toks:=t'}:=by
 have neL:∀b o,X.s₀.heap.get? b=some o→b≠X.env.locals:=fun b o e=>Nat.ne_of_lt (Nat.lt_of_lt_of_le (Heap.lt_size e) I.ok.above);have neC:∀b o,X.s₀.heap.get? b=some o→b∉X.ex→b∉ch:=fun b o e hx hb=>by
  rcases(hch b hb).1 with z|z
  ·exact hx z
  ·exact absurd (Nat.lt_of_lt_of_le (Heap.lt_size e) z) (Nat.lt_irrefl _)
 have cellK:∀x c,X.env.cells.lookup x=some c→∀v,s.heap.IsCell c v→h'.IsCell c v:=fun x c e v ⟨o,ho,hd⟩=>by
  have nch:c∉ch:=fun z=>(hch c z).2.2.1 x c e rfl
  by_cases hc:c∈X.fs
  ·obtain⟨sl,q⟩:=slot c o (I.cne x c e) hc nch ho (I.freeC x c e);exact⟨_,q,hd⟩
  ·exact⟨o,keep c o (I.cne x c e) hc nch ho (I.freeC x c e),hd⟩
 refine⟨I.ok,I.os,hg,⟨fun b o e n hb hx=> ?_,fun b o e n hb hx=> ?_,fun b o e n hx=> ?_,fun b o e hx=> ?_,fun b xs e=>tups b xs (I.base.tups b xs e),fun b o xs e=>frzs b o xs (I.base.frzs b o xs e),fun b ps e=> ?_⟩, ?_,fun x c e=> ?_, ?_,fun x c e=> ?_,fun p hp=> ?_,hok,I.len⟩
 ·exact keep b o (neL b o e) hb (neC b o e hx) (I.base.keep b o e n hb hx) (I.base.free b o e n hx)
 ·obtain⟨sl,e1⟩:=I.base.slot b o e n hb hx;obtain⟨sl',e2⟩:=slot b _ (neL b o e) hb (neC b o e hx) e1 (I.base.free b o e n hx);exact⟨sl',e2⟩
 ·obtain⟨o',e1⟩:=I.base.there b o e hx;exact free b o' (neC b o e hx) e1 (I.base.free b o e n hx)
 ·obtain⟨o',e1⟩:=I.base.there b o e hx;exact there b o' (neC b o e hx) e1
 ·obtain⟨m1,e1⟩:=I.base.tbls b ps e;obtain⟨m2,e2⟩:=tbls b _ e1;exact⟨m1 ++ m2,by rw [e2,Array.append_assoc]⟩
 ·obtain⟨m,hn,hl⟩:=I.loc;refine⟨m,ns m hn,fun i x v e1 e2 e3=> ?_⟩;obtain⟨u,r,l⟩:=hl i x v e1 e2 e3;refine⟨u,r, ?_⟩;rcases l with l|⟨k,c,e,z⟩
  ·exact .inl l
  ·exact .inr ⟨k,c,e,cellK x c e _ z⟩
 ·obtain⟨v,z⟩:=I.cell x c e;exact⟨v,cellK x c e v z⟩
 ·obtain⟨m,⟨o,_,_,ho,_⟩,_⟩:=I.loc;exact free _ o (fun z=>(hch _ z).2.1 rfl) ho I.free
 ·obtain⟨v,o,ho,hd⟩:=I.cell x c e;exact free c o (fun z=>(hch c z).2.2.1 x c e rfl) ho (I.freeC x c e)
 ·obtain⟨e,n,ne,nf,d⟩:=I.pin p hp;have nch:p.1∉ch:=fun z=>(hch p.1 z).2.2.2 p hp rfl;exact⟨keep p.1 p.2 ne nf nch e n,free p.1 p.2 nch e n,ne,nf,d⟩
theorem Inv.un{t':Nat}(I:Inv X zc σ H s)(u:Un X.fs [] H H' s.heap h')(hok:HOk X.prog X.w H' h'):Inv X zc σ H' {s with heap:=h',toks:=t'}:=by
 obtain⟨m,⟨o,es,ep,ho,r⟩,_⟩:=id I.loc;obtain⟨sl,hL⟩:=u.any ho I.free (by simp);exact I.step (g':=s.gens) (d':=s.drawn) (ch:= []) (fun _ z=>nomatch z) (fun b o _ hb _ e n=>u.keep b o e n hb (by simp)) (fun b o _ hb _ e n=>u.slot b o e n hb (by simp)) (fun b o _ e n=>u.free b o e n (by simp)) (fun b o _ e=>u.there b o e (by simp)) u.tups u.frzs u.tbls (fun m' hm=>by
  obtain⟨o',es',ep',ho',r'⟩:=hm;rw [ho] at ho';cases ho';exact⟨_,es',ep',hL,r'⟩) hok I.bare
theorem Inv.call{g':Array GenState}{t':Nat}{d':Drawn}{ch:List Addr}(I:Inv X zc σ H s)(u:Un (frs X.stack) ch H H' s.heap h')(hok:HOk X.prog X.w H' h')(hg:AllBare g')
  (hch:∀b∈ch,(b∈X.ex∨X.s₀.heap.objs.size≤b)∧b≠X.env.locals∧(∀x c,X.env.cells.lookup x=some c→c≠b)∧∀p∈X.pn ++ zc,p.1≠b):
  Inv X zc σ H' {s with heap:=h',gens:=g',drawn:=d',toks:=t'}:=by
 obtain⟨m,⟨o,es,ep,ho,r⟩,_⟩:=id I.loc;obtain⟨sl,hL⟩:=u.any ho I.free fun z=>(hch _ z).2.1 rfl;exact I.step (ch:=ch) hch (fun b o hL hb hc e n=>u.keep b o e n (fun z=>(List.mem_cons.mp (I.stkSub b z)).elim hL hb) hc) (fun b o _ _ hc e n=>u.any e n hc) (fun b o hc e n=>u.free b o e n hc) (fun b o hc e=>u.there b o e hc) u.tups u.frzs u.tbls (fun m' hm=>by
  obtain⟨o',es',ep',ho',r'⟩:=hm;rw [ho] at ho';cases ho';exact⟨_,es',ep',hL,r'⟩) hok hg
theorem Inv.turned{t':Nat}{it:Addr}(I:Inv X zc σ H s)(k:∀b o,b≠it→s.heap.get? b=some o→h'.get? b=some o)(hn:H it=none)(hL:it≠X.env.locals)
  (h1:it∈X.ex∨X.s₀.heap.objs.size≤it) (h2:∀x c,X.env.cells.lookup x=some c→c≠it) (h3:∀p∈X.pn ++ zc,p.1≠it):Inv X zc σ H {s with heap:=h',toks:=t'}:=by
 have nit:∀b u,H b=some u→b≠it:=fun b u e z=>by rw [z,hn] at e;cases e
 refine I.step (g':=s.gens) (d':=s.drawn) (ch:= [it]) (fun b hb=> ?_) (fun b o _ _ hc e _=>k b o (fun z=>hc (by simp [z])) e) (fun b o _ _ hc e _=>⟨o.slots,k b o (fun z=>hc (by simp [z])) e⟩) (fun _ _ _ _ n=>n)
  (fun b o hc e=>⟨o,k b o (fun z=>hc (by simp [z])) e⟩) (fun _ _ e=>e) (fun _ _ _ e=>e) (fun b ps e=>⟨#[],by rw [e];simp⟩) (fun m hm=> ?_) (fun b u e=> ?_) I.bare
 ·have e:b=it:=by simpa using hb
  subst e;exact⟨h1,hL,h2,h3⟩
 ·obtain⟨o,es,ep,ho,r⟩:=hm;exact⟨o,es,ep,k _ o (Ne.symm hL) ho,r⟩
 ·refine(I.hok b u e).stay (fun c v hc q=>k c v ?_ q) (fun _ q=>q) fun _ _ q=>q;rcases hc with z|z
  ·rw [z];exact nit b u e
  ·exact nit c _ z
theorem Inv.tok(I:Inv X zc σ H s)(t:Nat):Inv X zc σ H {s with toks:=t}:=I.un (h':=s.heap) (t':=t) Un.refl I.hok
theorem Inv.kept{t':Nat}(I:Inv X zc σ H s)(k:∀b u,s.heap.get? b=some u→h'.get? b=some u):Inv X zc σ H {s with heap:=h',toks:=t'}:=I.un (Un.kept k) (I.hok.kept k)
theorem Inv.laid{a:Addr}{o:HO}{t':Nat}(I:Inv X zc σ H s)(k:∀b u,s.heap.get? b=some u→h'.get? b=some u)(hp:s.heap.objs.size≤a)(new:ObjOk X.prog X.w (upd H a o) h' a o):
  Inv X zc σ (upd H a o) {s with heap:=h',toks:=t'}:=I.un (Un.laid k hp (I.hok.fresh hp)) (I.hok.laid k hp new)
theorem Inv.write{x e:Addr}{o:HO}{t':Nat}(I:Inv X zc σ H s)(mu:Mut (H x))(he:e=x∨H e=some (.own x))(k:∀b u,b≠e→s.heap.get? b=some u→h'.get? b=some u)(heo:∃u,h'.get? e=some u)
  (new:ObjOk X.prog X.w (upd H x o) h' x o):Inv X zc σ (upd H x o) {s with heap:=h',toks:=t'}:=I.un (Un.write mu he k heo) (I.hok.write mu he k heo new)
theorem Inv.pins_of{aj:List (Addr×Obj)}(I:Inv X zc σ H s)(h:∀p∈aj,s.heap.get? p.1=some p.2∧H p.1=none∧p.1≠X.env.locals∧p.1∉X.fs∧∀v,p.2.data≠ .cell v):Inv X aj σ H s:=
 ⟨I.ok,I.os,I.bare,I.base,I.loc,I.cell,I.free,I.freeC,fun p hp=>(List.mem_append.mp hp).elim (fun z=>I.pin p (List.mem_append_left _ z)) (h p),I.hok,I.len⟩
theorem aw_6{N:List Str}(hN:N.Nodup){i j:Nat}{x:Str}(a:N[i]? =some x)(b:N[j]? =some x):i=j:=by
 obtain⟨h1,e1⟩:=List.getElem?_eq_some_iff.mp a;obtain⟨h2,e2⟩:=List.getElem?_eq_some_iff.mp b;exact(List.getElem_inj hN).mp (e1.trans e2.symm)
theorem bf_2{M:Model}{A:Around}{E:Value→Shared→Prop}{i:Nat}{x:Str}{v:V}{u:Value}{Q:Unit→Shared→Prop}(I:Inv X zc σ H s)(hN:X.N.Nodup)(hi:X.N[i]? =some x)(hx:Loc X.env.scope x)(r:RelV v u)
  (h:∀s',Inv X zc (σ.set i (some v)) H s'→(∃a,Heap.SameBut a s.heap s'.heap∧(a=X.env.locals∨X.env.cells.lookup x=some a))→Q () s') (hf:X.fn x=true∨X.env.scope.names.lookup x=some .local:=by first|exact .inl rfl|exact .inr rfl|assumption):wpAny M A (storeName X.env x u) Q E s:=by
 obtain⟨m,hn,hl⟩:=id I.loc;have cv:(X.env.scope.kind == .class || (X.env.scope.kind == .module && X.env.locals != X.env.globals))=false:=by rw [I.ok.kind];rfl
 have hiσ:i < σ.length:=by rw [I.len];exact(List.getElem?_eq_some_iff.mp hi).1
 have cne:=I.cne;have tracked:∀{a:Addr} {h':Heap},(∃o,s.heap.get? a=some o∧H a=none)→Heap.SameBut a s.heap h'→HOk X.prog X.w H h':=fun{a h'} ha hs b ob e=>by
  obtain⟨_,_,ar⟩:=ha;refine(I.hok b ob e).stay (fun c w' hc q=>(hs.2 c ?_).trans q) (fun _ q=>q) fun _ _ q=>q
  rintro rfl
  rcases hc with rfl|hc
  ·rw [ar] at e;cases e
  ·rw [ar] at hc;cases hc
 rcases hx with hk|hk
 ·refine wpAny_storeName_local hk hn (fun h' hn' hs=> ?_) cv;obtain⟨oL,_,_,hoL,_⟩:=id hn;refine h _ ⟨I.ok,I.os,I.bare,⟨fun b o e n hb hx=> ?_,fun b o e n hb hx=> ?_,I.base.free,fun b o e hx=> ?_,I.base.tups,I.base.frzs,I.base.tbls⟩,⟨_,hn',fun j y v' e1 e2 e3=> ?_⟩,fun y c e=> ?_,I.free,I.freeC,fun p hp=> ?_,tracked ⟨oL,hoL,I.free⟩ hs,by simpa using I.len⟩ ⟨_,hs, .inl rfl⟩
  ·exact(hs.2 b (Nat.ne_of_lt (Nat.lt_of_lt_of_le (Heap.lt_size e) I.ok.above))).trans (I.base.keep b o e n hb hx)
  ·obtain⟨sl,e1⟩:=I.base.slot b o e n hb hx;exact⟨sl,(hs.2 b (Nat.ne_of_lt (Nat.lt_of_lt_of_le (Heap.lt_size e) I.ok.above))).trans e1⟩
  ·obtain⟨o',e1⟩:=I.base.there b o e hx;exact⟨o',(hs.2 b (Nat.ne_of_lt (Nat.lt_of_lt_of_le (Heap.lt_size e) I.ok.above))).trans e1⟩
  ·by_cases hj:j=i
   ·subst hj;rw [hi] at e1;cases e1;rw [List.getElem?_set_self hiσ] at e2;cases e2;exact⟨u,r, .inl ⟨hk,by simp⟩⟩
   ·rw [List.getElem?_set_ne (Ne.symm hj)] at e2;obtain⟨u',r',q⟩:=hl j y v' e1 e2 e3;refine⟨u',r', ?_⟩;rcases q with⟨k,e⟩|⟨k,c,e,z⟩
    ·refine .inl ⟨k, ?_⟩;have:y≠x:=fun e=>hj (aw_6 hN e1 (e▸hi));simp [this,e]
    ·exact .inr ⟨k,c,e,z.sameBut hs (cne y c e)⟩
  ·obtain⟨w',z⟩:=I.cell y c e;exact⟨w',z.sameBut hs (cne y c e)⟩
  ·obtain⟨e,n,ne,nf,d⟩:=I.pin p hp;exact⟨(hs.2 p.1 ne).trans e,n,ne,nf,d⟩
 ·have hfn:X.fn x=true:=by
   rcases hf with z|z
   ·exact z
   ·rw [z] at hk;cases hk
  obtain⟨c,hc⟩:=I.ok.has x (.inl hk);obtain⟨w',z⟩:=I.cell x c hc;refine wpAny_storeName_cell I.ok.kind hk hc z (fun h' hc' hs=> ?_);obtain⟨oc,hoc,fz⟩:=id z;refine h {s with heap:=h'} ⟨I.ok,I.os,I.bare,⟨fun b o e n hb hx=> ?_,fun b o e n hb hx=> ?_,I.base.free,fun b o e hx=> ?_,I.base.tups,I.base.frzs,I.base.tbls⟩,⟨m,hn.sameBut hs (Ne.symm (cne x c hc)),fun j y v' e1 e2 e3=> ?_⟩,fun y c' e=> ?_,I.free,I.freeC,fun p hp=> ?_,tracked ⟨oc,hoc,I.freeC x c hc⟩ hs,by simpa using I.len⟩ ⟨c,hs, .inr hc⟩
  ·exact(hs.2 b (Nat.ne_of_lt (Nat.lt_of_lt_of_le (Heap.lt_size e) (I.ok.cab x c hfn hc)))).trans (I.base.keep b o e n hb hx)
  ·obtain⟨sl,e1⟩:=I.base.slot b o e n hb hx;exact⟨sl,(hs.2 b (Nat.ne_of_lt (Nat.lt_of_lt_of_le (Heap.lt_size e) (I.ok.cab x c hfn hc)))).trans e1⟩
  ·obtain⟨o',e1⟩:=I.base.there b o e hx;exact⟨o',(hs.2 b (Nat.ne_of_lt (Nat.lt_of_lt_of_le (Heap.lt_size e) (I.ok.cab x c hfn hc)))).trans e1⟩
  ·by_cases hj:j=i
   ·subst hj;rw [hi] at e1;cases e1;rw [List.getElem?_set_self hiσ] at e2;cases e2;exact⟨u,r, .inr ⟨.inl hk,c,hc,hc'⟩⟩
   ·rw [List.getElem?_set_ne (Ne.symm hj)] at e2;obtain⟨u',r',q⟩:=hl j y v' e1 e2 e3;refine⟨u',r', ?_⟩;rcases q with q|⟨k,c',e,z'⟩
    ·exact .inl q
    ·refine .inr ⟨k,c',e,z'.sameBut hs ?_⟩
     rintro rfl
     exact hj (aw_6 hN e1 (I.ok.inj _ _ _ e hc▸hi))
  ·by_cases hcc:c'=c
   ·subst hcc;exact⟨_,hc'⟩
   ·obtain⟨w2,z2⟩:=I.cell y c' e;exact⟨w2,z2.sameBut hs hcc⟩
  ·obtain⟨e,n,ne,nf,d⟩:=I.pin p hp;refine⟨(hs.2 p.1 ?_).trans e,n,ne,nf,d⟩;intro q;rw [q,hoc] at e;have q':oc=p.2:=Option.some.inj e;exact d w' (by rw [←q'];exact fz)
theorem aw_7{M:Model}{A:Around}{E:Value→Shared→Prop}{i:Nat}{x:Str}{v:V}{u:Value}{Q:Unit→Shared→Prop}(I:Inv X zc σ H s)(hN:X.N.Nodup)(hi:X.N[i]? =some x)(hx:Loc X.env.scope x)(r:RelV v u)
  (h:∀s',Inv X zc (σ.set i (some v)) H s'→Q () s') (hf:X.fn x=true∨X.env.scope.names.lookup x=some .local:=by first|exact .inl rfl|exact .inr rfl|assumption):wpAny M A (storeName X.env x u) Q E s:=
 bf_2 I hN hi hx r (fun s' I' _=>h s' I') hf
theorem Inv.call'{s':Shared}{ch:List Addr}(I:Inv X zc σ H s)(ho:s'.os=s.os)(u:Un (frs X.stack) ch H H' s.heap s'.heap)(hok:HOk X.prog X.w H' s'.heap)(hg:AllBare s'.gens)
  (hch:∀b∈ch,(b∈X.ex∨X.s₀.heap.objs.size≤b)∧b≠X.env.locals∧(∀x c,X.env.cells.lookup x=some c→c≠b)∧∀p∈X.pn ++ zc,p.1≠b):Inv X zc σ H' s':=by
 obtain⟨h',g',d',t',o'⟩:=s';have e:o'=s.os:=ho;subst e;exact I.call (g':=g') (t':=t') (d':=d') u hok hg hch
end
abbrev XK:=Value→Option Addr→Hp→Prop
abbrev St:=List (Option V)
abbrev VK:=V→Hp→Prop
abbrev TE:=St→Hp→VK→Prop
abbrev TT:=St→Hp→(Bool→Hp→Prop)→Prop
abbrev TA:=St→Hp→(List V→Hp→Prop)→Prop
structure Ends where
 nx:St→Hp→Prop
 rt:VK
 bk:St→Hp→Prop:=fun _ _=>False
 ct:St→Hp→Prop:=fun _ _=>False
abbrev TS:=Ends→St→Hp→Prop
def EP(X:Cx)(zc:List (Addr×Obj))(σ:St)(Q:VK)(u:Value)(s':Shared):Prop:=∃v H',Inv X zc σ H' s'∧RelV v u∧Q v H'
def TP(X:Cx)(zc:List (Addr×Obj))(σ:St)(Q:Bool→Hp→Prop)(b:Bool)(s':Shared):Prop:=∃H',Inv X zc σ H' s'∧Q b H'
def AP(X:Cx)(zc:List (Addr×Obj))(σ:St)(Q:List V→Hp→Prop)(us:List Value)(s':Shared):Prop:=∃vs H',Inv X zc σ H' s'∧Vals vs us∧Q vs H'
def SP(X:Cx)(zc:List (Addr×Obj))(D:Ends)(f:Flow)(s':Shared):Prop:=
 match f with
 | .next=>∃σ' H',Inv X zc σ' H' s'∧D.nx σ' H'
 | .brk=>∃σ' H',Inv X zc σ' H' s'∧D.bk σ' H'
 | .cont=>∃σ' H',Inv X zc σ' H' s'∧D.ct σ' H'
 | .ret u=>∃v σ' H',Inv X zc σ' H' s'∧RelV v u∧D.rt v H'
def PE(X:Cx)(e:Expr)(t:TE):Prop:=
 ∀(zc:List (Addr×Obj)) (s:Shared) (σ:St) (H:Hp) (Q:VK),Inv X zc σ H s→t σ H Q→wpAny (model X.prog X.w) X.A (eval e X.env) (EP X zc σ Q) X.xe s
def PT(X:Cx)(e:Expr)(t:TT):Prop:=
 ∀(zc:List (Addr×Obj)) (s:Shared) (σ:St) (H:Hp) (Q:Bool→Hp→Prop),Inv X zc σ H s→t σ H Q→wpAny (model X.prog X.w) X.A (isTrue e X.env (eval e X.env)) (TP X zc σ Q) X.xe s
def PW(X:Cx)(e:Expr)(t:TT):Prop:=
 ∀(whole:Sem Value) (zc:List (Addr×Obj)) (s:Shared) (σ:St) (H:Hp) (Q:Bool→Hp→Prop),Inv X zc σ H s→t σ H Q→wpAny (model X.prog X.w) X.A (isTrue e X.env whole) (TP X zc σ Q) X.xe s
theorem PW.pt{X:Cx}{e:Expr}{t:TT}(h:PW X e t):PT X e t:=h _
def PA(X:Cx)(es:List Expr)(t:TA):Prop:=
 ∀(pos:Pos) (zc:List (Addr×Obj)) (s:Shared) (σ:St) (H:Hp) (Q:List V→Hp→Prop),Inv X zc σ H s→t σ H Q→wpAny (model X.prog X.w) X.A (spliced (backTo pos (starEach es X.env))) (AP X zc σ Q) X.xe s
def PS(X:Cx)(st:Stmt)(t:TS):Prop:=
 ∀(zc:List (Addr×Obj)) (s:Shared) (σ:St) (H:Hp) (D:Ends),Inv X zc σ H s→t D σ H→wpAny (model X.prog X.w) X.A (exec st X.env) (SP X zc D) X.xe s
def PSs(X:Cx)(st:List Stmt)(t:TS):Prop:=
 ∀(zc:List (Addr×Obj)) (s:Shared) (σ:St) (H:Hp) (D:Ends),Inv X zc σ H s→t D σ H→wpAny (model X.prog X.w) X.A (execs st X.env) (SP X zc D) X.xe s
theorem thn{α:Type}{t:Sem α}{Q Q':α→Shared→Prop}{M:Model}{A:Around}{E:Value→Shared→Prop}{s:Shared}(h:wpAny M A t Q E s)(hQ:∀a s,Q a s→Q' a s):wpAny M A t Q' E s:=wpAny_mono h hQ fun _ _ x=>x
section
variable{X:Cx}
def tVar(i:Nat):TE:=fun σ H Q=>∃v,σ[i]? =some (some v)∧Q v H
def tC(v:V):TE:=fun _ H Q=>Q v H
theorem h_4{i:Nat}{x:Str}{pos:Pos}(hN:X.N[i]? =some x)(hv:Vis X.env.scope x)(hd:(x ==("__debug__" :Str))=false:=by decide)(hcd:(x ==("__classdict__" :Str))=false:=by decide):PE X (.Name x pos) (tVar i):=by
 intro zc s σ H Q I h;obtain⟨v,e,h⟩:=h;obtain⟨m,hn,hl⟩:=I.loc;obtain⟨u,r,l⟩:=hl i x v hN e hv;have fin:EP X zc σ Q u s:=⟨v,H,I,r,h⟩;rcases l with⟨hk,hm⟩|⟨hk,c,hc,hcell⟩
 ·exact wpAny_Name (wpAny_loadName_local I.ok.kind hk hn hm fin) hd
 ·rcases hk with hk|hk
  ·exact wpAny_Name (wpAny_loadName_cell I.ok.kind hk hc hcell fin) hd
  ·exact wpAny_Name (wpAny_loadName_free I.ok.kind hk hc hcell fin hcd) hd
theorem do_6{i j pos}:PE X (.Constant (.int i) j pos) (tC (.int i)):=fun _ _ _ H _ I h=>wpAny_Constant_int ⟨.int i,H,I.tok _,⟨_,rfl⟩,h⟩
theorem dv_2{b j pos}:PE X (.Constant (.bool b) j pos) (tC (.bl b)):=fun _ _ _ H _ I h=>Constant_bool ⟨.bl b,H,I,rfl,h⟩
theorem cs_7{j pos}:PE X (.Constant .none j pos) (tC .non):=fun _ _ _ H _ I h=>Constant_none ⟨.non,H,I,rfl,h⟩
theorem do_7{x j pos}:PE X (.Constant (.str x) j pos) (tC (.str x)):=fun _ _ _ H _ I h=>Calls.Constant_str ⟨.str x,H,I.tok _,⟨_,rfl⟩,h⟩
def Gl(X:Cx)(x:Str):Prop:=X.env.kindOf x=some .globalImplicit
theorem w_6{E:Value→Shared→Prop}{zc:List (Addr×Obj)}{s:Shared}{σ:St}{H:Hp}{x:Str}{u:Value}{pos:Pos}{Q:Value→Shared→Prop}(I:Inv X zc σ H s)(hg:Gl X x)(hm:X.mg x=some u)(h:Q u s)
  (hd:(x ==("__debug__" :Str))=false:=by decide):wpAny (model X.prog X.w) X.A (eval (.Name x pos) X.env) Q E s:=
 Calls.Name_function_global I.ok.kind hg (Calls.loadGlobal_global (by rw [I.ok.glob];exact I.mod.glob.keeps I.bk) hm h) hd
theorem z_7{E:Value→Shared→Prop}{zc:List (Addr×Obj)}{s:Shared}{σ:St}{H:Hp}{x:Str}{u:Value}{pos:Pos}{Q:Value→Shared→Prop}(I:Inv X zc σ H s)(hg:Gl X x)(hm:X.mg x=none)(hv:bootBuiltins x=some u)(h:Q u s)
  (hn:x≠ "__name__" :=by decide) (hd:(x ==("__debug__" :Str))=false:=by decide):wpAny (model X.prog X.w) X.A (eval (.Name x pos) X.env) Q E s:=by
 obtain⟨mb,h1,h2⟩:=I.mod.blt;exact Calls.Name_function_global I.ok.kind hg (Calls.loadGlobal_builtin (by rw [I.ok.glob];exact I.mod.glob.keeps I.bk) hm (by rw [I.ok.blt];exact h1.keeps I.bk) ((h2 x hn).trans hv) h) hd
theorem bk_2{x:Str}{v:V}{u:Value}{pos:Pos}(hg:Gl X x)(hm:X.mg x=some u)(r:RelV v u)(hd:(x ==("__debug__" :Str))=false:=by decide):PE X (.Name x pos) (tC v):=
 fun _ _ _ H _ I h=>w_6 I hg hm ⟨v,H,I,r,h⟩ hd
theorem de_5{x:Str}{v:V}{u:Value}{pos:Pos}(hg:Gl X x)(hm:X.mg x=none)(hv:bootBuiltins x=some u)(r:RelV v u)(hn:x≠ "__name__" :=by decide)(hd:(x ==("__debug__" :Str))=false:=by decide):PE X (.Name x pos) (tC v):=
 fun _ _ _ H _ I h=>z_7 I hg hm hv ⟨v,H,I,r,h⟩ hn hd
variable{a b:Expr}{ta tb:TE}{pos:Pos}
variable{tA tB':TT}{t_0:List Expr}
def tAnd(t u:TT):TT:=fun σ H Q=>t σ H fun c H1=>if c=true then u σ H1 Q else Q false H1
def tOr(t u:TT):TT:=fun σ H Q=>t σ H fun c H1=>if c=true then Q true H1 else u σ H1 Q
def tNot(t:TT):TT:=fun σ H Q=>t σ H fun c H1=>Q (!c) H1
theorem de_6(ha:PT X a tA):PW X (.BoolOp .And [a] pos) tA:=by
 intro wh zc s σ H Q I h;refine isTrue_and (thn (ha zc s σ H Q I h) fun c s1 e=> ?_);cases c with
 |true=>exact isTrue_and_nil e
 |false=>exact e
theorem do_8(ha:PT X a tA):PW X (.BoolOp .Or [a] pos) tA:=by
 intro wh zc s σ H Q I h;refine isTrue_or (thn (ha zc s σ H Q I h) fun c s1 e=> ?_);cases c with
 |false=>exact isTrue_or_nil e
 |true=>exact e
theorem do_9(ha:PT X a tA)(hb:PW X (.BoolOp .And (b::t_0) pos) tB'):PW X (.BoolOp .And (a::b::t_0) pos) (tAnd tA tB'):=by
 intro wh zc s σ H Q I h;refine isTrue_and (thn (ha zc s σ H _ I h) fun c s1 ⟨H1,I1,q1⟩=> ?_);cases c with
 |true=>exact hb wh zc s1 σ H1 Q I1 q1
 |false=>exact⟨H1,I1,q1⟩
theorem dv_3(ha:PT X a tA)(hb:PW X (.BoolOp .Or (b::t_0) pos) tB'):PW X (.BoolOp .Or (a::b::t_0) pos) (tOr tA tB'):=by
 intro wh zc s σ H Q I h;refine isTrue_or (thn (ha zc s σ H _ I h) fun c s1 ⟨H1,I1,q1⟩=> ?_);cases c with
 |true=>exact⟨H1,I1,q1⟩
 |false=>exact hb wh zc s1 σ H1 Q I1 q1
theorem dp_0(ha:PT X a tA):PT X (.UnaryOp .Not a pos) (tNot tA):=by
 intro zc s σ H Q I h;exact isTrue_not (ha zc s σ H (fun c H1=>Q (!c) H1) I h)
def dv_4(ta tb:TE):TE:=fun σ H Q=>ta σ H fun x H1=>∃c,x= .bl c∧if c=true then tb σ H1 Q else Q (.bl false) H1
def dv_5(ta:TE):TE:=fun σ H Q=>ta σ H fun x H1=>∃c,x= .bl c∧Q (.bl (!c)) H1
theorem dp_1{op}{t:TE}(h:PE X a t):PE X (.BoolOp op [a] pos) t:=fun zc s σ H Q I hw=>BoolOp_one (h zc s σ H Q I hw)
theorem dp_2(ha:PE X a ta)(hb:PE X (.BoolOp .And (b::t_0) pos) tb):PE X (.BoolOp .And (a::b::t_0) pos) (dv_4 ta tb):=by
 intro zc s σ H Q I h;refine BoolOp_and (thn (ha zc s σ H _ I h) fun v s1 ⟨x,H1,I1,r1,q1⟩=> ?_);obtain⟨c,rfl,q1⟩:=q1;cases r1;refine wpAny_truthy_bool ?_;cases c with
 |true=>exact hb zc s1 σ H1 Q I1 q1
 |false=>exact⟨.bl false,H1,I1,rfl,q1⟩
theorem dp_3(ha:PE X a ta):PE X (.UnaryOp .Not a pos) (dv_5 ta):=by
 intro zc s σ H Q I h;refine UnaryOp_ (thn (ha zc s σ H _ I h) fun v s1 ⟨x,H1,I1,r1,q1⟩=> ?_);obtain⟨c,rfl,q1⟩:=q1;cases r1;exact not_of (wpAny_truthy_bool ⟨.bl (!c),H1,I1,rfl,q1⟩)
def tIf(t:TT)(ta tb:TE):TE:=fun σ H Q=>t σ H fun c H1=>if c=true then ta σ H1 Q else tb σ H1 Q
theorem cs_8{c:Expr}(hc:PT X c tA)(ha:PE X a ta)(hb:PE X b tb):PE X (.IfExp c a b pos) (tIf tA ta tb):=by
 intro zc s σ H Q I h;refine wpAny_IfExp (thn (hc zc s σ H _ I h) fun d s1 ⟨H1,I1,q1⟩=> ?_);cases d with
 |true=>exact ha zc s1 σ H1 Q I1 q1
 |false=>exact hb zc s1 σ H1 Q I1 q1
end
def SqL(K:Frag)(H:Hp)(a:Addr)(xs:List V):Prop:=
 Rd H a (.lst xs)∨
  ∃(o:Obj) (its:Array Value) (n:Nat),K.lookup a=some o∧o.cls= .type "list" ∧o.dict=none∧o.data= .seq its n∧its.size≤sizeLine∧Vals xs its.toList
def SqT(K:Frag)(H:Hp)(a:Addr)(xs:List V):Prop:=
 Rd H a (.tup xs)∨
  ∃(o:Obj) (its:Array Value) (n:Nat),K.lookup a=some o∧o.cls= .type "tuple" ∧o.data= .seq its n∧its.size≤sizeLine∧Vals xs its.toList
def absV:Value→Option V
 | .none=>some .non
 | .bool b=>some (.bl b)
 | .int i _=>some (.int i)
 | .str x _=>some (.str x)
 | .bytes b _=>some (.byt b)
 | .float b _=>some (.flt b)
 | .ref a=>some (.ref a)
 | .type n=>some (.ty n)
 |_=>none
theorem RelV.abs{x:V}{u:Value}(r:RelV x u):absV u=some x:=by
 cases x with
 |non=>cases r;rfl
 |bl _=>cases r;rfl
 |int _=>obtain⟨t,rfl⟩:=r;rfl
 |str _=>obtain⟨t,rfl⟩:=r;rfl
 |byt _=>obtain⟨t,rfl⟩:=r;rfl
 |flt _=>obtain⟨t,rfl⟩:=r;rfl
 |ref _=>cases r;rfl
 |ty _=>cases r;rfl
theorem RelV.inj{x y:V}{u:Value}(r:RelV x u)(q:RelV y u):x=y:=Option.some.inj (r.abs.symm.trans q.abs)
theorem Vals.inj:∀{xs ys:List V} {us:List Value},Vals xs us→Vals ys us→xs=ys
 |_,_,_, .nil, .nil=>rfl
 |_,_,_, .cons r t, .cons r' t'=>by rw [r.inj r',Vals.inj t t']
section
variable{X:Cx}{zc:List (Addr×Obj)}{σ:St}{H:Hp}{s:Shared}{a:Addr}{xs ys:List V}
theorem SqL.of{K:Frag}(h:H a=some (.lst xs)):SqL K H a xs:= .inl (.inl h)
theorem SqT.of{K:Frag}(h:H a=some (.tup xs)):SqT K H a xs:= .inl (.inl h)
theorem Inv.list(I:Inv X zc σ H s)(h:SqL X.K H a xs):∃its:List Value,Vals xs its∧PlainL s.heap a its.toArray∧xs.length≤sizeLine:=by
 rcases h with h|⟨o,its,n,hk,hc,hd,hs,hz,r⟩
 ·obtain⟨z,its,n,r,e⟩:=h.ok I.hok;exact⟨its,r,⟨_,n,e,rfl,rfl,rfl⟩,z⟩
 ·refine⟨its.toList,r,⟨o,n,I.kIn a o hk,hc,hd,by simpa using hs⟩, ?_⟩;have e:=r.length;simp only [Array.length_toList] at e;omega
theorem Inv.tuple(I:Inv X zc σ H s)(h:SqT X.K H a xs):∃its:List Value,Vals xs its∧IsTup s.heap a its.toArray∧xs.length≤sizeLine:=by
 rcases h with h|⟨o,its,n,hk,hc,hs,hz,r⟩
 ·obtain⟨z,its,r,p⟩:=h.ok I.hok;exact⟨its,r,p,z⟩
 ·refine⟨its.toList,r,⟨o,I.kIn a o hk,hc,n,by simpa using hs⟩, ?_⟩;have e:=r.length;simp only [Array.length_toList] at e;omega
theorem Inv.list_inj(I:Inv X zc σ H s)(h:SqL X.K H a xs)(h':SqL X.K H a ys):xs=ys:=by
 obtain⟨its,r,⟨o,n,e,_,_,d⟩,_⟩:=I.list h;obtain⟨its',r',⟨o',n',e',_,_,d'⟩,_⟩:=I.list h';rw [e] at e';cases e';rw [d] at d';injection d' with d1 _
 have:its=its':=by simpa using congrArg Array.toList d1
 subst this;exact r.inj r'
theorem Inv.tuple_inj(I:Inv X zc σ H s)(h:SqT X.K H a xs)(h':SqT X.K H a ys):xs=ys:=by
 obtain⟨its,r,⟨o,e,_,n,d⟩,_⟩:=I.tuple h;obtain⟨its',r',⟨o',e',_,n',d'⟩,_⟩:=I.tuple h';rw [e] at e';cases e';rw [d] at d';injection d' with d1 _
 have:its=its':=by simpa using congrArg Array.toList d1
 subst this;exact r.inj r'
end
abbrev Cx.wish(X:Cx)(E:Value→Shared→Prop):Cx:={X with xe:=E}
abbrev Cx.nox(X:Cx):Cx:=X.wish fun _ _=>False
theorem Cx.Ok.wish{X:Cx}(ok:X.Ok)(E:Value→Shared→Prop):(X.wish E).Ok:=
 ⟨ok.mod,ok.kind,ok.glob,ok.blt,ok.above,ok.inj,ok.has,ok.cab,ok.hd,ok.frames,ok.stk,ok.exf,ok.bs,ok.bsz,ok.noex,ok.exfs,ok.funs,ok.frf⟩
theorem Cx.Ok.unwish{X:Cx}{E:Value→Shared→Prop}(ok:(X.wish E).Ok):X.Ok:=
 ⟨ok.mod,ok.kind,ok.glob,ok.blt,ok.above,ok.inj,ok.has,ok.cab,ok.hd,ok.frames,ok.stk,ok.exf,ok.bs,ok.bsz,ok.noex,ok.exfs,ok.funs,ok.frf⟩
section
variable{X:Cx}{zc:List (Addr×Obj)}{σ:St}{H:Hp}{s:Shared}{E:Value→Shared→Prop}
theorem Inv.wish(I:Inv X zc σ H s)(E:Value→Shared→Prop):Inv (X.wish E) zc σ H s:=⟨I.ok.wish E,I.os,I.bare,I.base,I.loc,I.cell,I.free,I.freeC,I.pin,I.hok,I.len⟩
theorem Inv.unwish(I:Inv (X.wish E) zc σ H s):Inv X zc σ H s:=⟨I.ok.unwish,I.os,I.bare,I.base,I.loc,I.cell,I.free,I.freeC,I.pin,I.hok,I.len⟩
theorem SP.unwish{D:Ends}{f:Flow}{s':Shared}(h:SP (X.wish E) zc D f s'):SP X zc D f s':=by
 cases f with
 |next=>obtain⟨σ',H',I,q⟩:=h;exact⟨σ',H',I.unwish,q⟩
 |brk=>obtain⟨σ',H',I,q⟩:=h;exact⟨σ',H',I.unwish,q⟩
 |cont=>obtain⟨σ',H',I,q⟩:=h;exact⟨σ',H',I.unwish,q⟩
 |ret u=>obtain⟨v,σ',H',I,r,q⟩:=h;exact⟨v,σ',H',I.unwish,r,q⟩
theorem PE.nox{e:Expr}{t:TE}(h:PE X.nox e t):PE X e t:=fun zc s σ H Q I hw=>
 wpAny_mono (h zc s σ H Q (I.wish _) hw) (fun _ _ ⟨v,H',I',r,q⟩=>⟨v,H',I'.unwish,r,q⟩) fun _ _ z=>False.elim z
end
section
variable{X:Cx}{st:Stmt}{t_0:List Stmt}{t u:TS}{e:Expr}{te:TE}{pos:Pos}
def dv_6:TS:=fun D σ H=>D.nx σ H
def tSeq(t u:TS):TS:=fun D σ H=>t {D with nx:=u D} σ H
theorem de_7:PSs X [] dv_6:=fun _ _ σ H _ I h=>wpAny_execs_nil ⟨σ,H,I,h⟩
theorem cs_9(h1:PS X st t)(h2:PSs X t_0 u):PSs X (st::t_0) (tSeq t u):=by
 intro zc s σ H D I h;refine wpAny_execs_cons (thn (h1 zc s σ H {D with nx:=u D} I h) fun f s1 q=> ?_);cases f with
 |next=>
  obtain⟨σ',H',I',q⟩:=q;exact h2 zc s1 σ' H' D I' q
 |ret v=>exact q
 |brk=>exact q
 |cont=>exact q
theorem aj_1(h1:PS X st t):PSs X [st] t:=by
 intro zc s σ H D I h;refine wpAny_execs_cons (thn (h1 zc s σ H D I h) fun f s1 q=> ?_);cases f with
 |next=>exact wpAny_execs_nil q
 |ret v=>exact q
 |brk=>exact q
 |cont=>exact q
theorem Inv.quiet{zc:List (Addr×Obj)}{σ:St}{H:Hp}{s:Shared}(I:Inv X zc σ H s):interactive X.env=false:=by simp [interactive,I.ok.kind]
def dv_7(te:TE):TS:=fun D σ H=>te σ H fun _ H1=>D.nx σ H1
theorem aj_2(he:PE X e te)(hs:swapsWith e none pos.line X.env=pure false:=by rfl):PS X (.Expr e pos) (dv_7 te):=by
 intro zc s σ H D I h;exact wpAny_Expr_any (thn (he zc s σ H _ I h) fun v s1 ⟨x,H1,I1,r1,q1⟩=>⟨σ,H1,I1,q1⟩) I.quiet hs
def tRet(te:TE):TS:=fun D σ H=>te σ H D.rt
theorem cb_4(he:PE X e te):PS X (.Return (some e) pos) (tRet te):=by
 intro zc s σ H D I h;exact wpAny_Return_some (thn (he zc s σ H _ I h) fun v s1 ⟨x,H1,I1,r1,q1⟩=>⟨x,σ,H1,I1,r1,q1⟩)
def tIfS(c:TT)(t u:TS):TS:=fun D σ H=>c σ H fun b H1=>if b=true then t D σ H1 else u D σ H1
theorem dv_8{c:Expr}{a b:List Stmt}{tc:TT}(hc:PT X c tc)(ha:PSs X a t)(hb:PSs X b u):PS X (.If c a b pos) (tIfS tc t u):=by
 intro zc s σ H D I h;refine wpAny_If (thn (hc zc s σ H _ I h) fun d s1 ⟨H1,I1,q1⟩=> ?_);cases d with
 |true=>exact ha zc s1 σ H1 D I1 q1
 |false=>exact hb zc s1 σ H1 D I1 q1
def dp_4:TS:=fun _ _ _=>False
theorem ct_0:PS X st dp_4:=fun _ _ _ _ _ _ h=>h.elim
end
abbrev TG:=V→St→Hp→(St→Hp→Prop)→Prop
abbrev TGs:=List V→St→Hp→(St→Hp→Prop)→Prop
def PG(X:Cx)(target:Expr)(t:TG):Prop:=
 ∀(zc:List (Addr×Obj)) (s:Shared) (σ:St) (H:Hp) (v:V) (u:Value) (Q:St→Hp→Prop),Inv X zc σ H s→RelV v u→t v σ H Q→
  wpAny (model X.prog X.w) X.A (assign target X.env u) (fun _ s'=>∃σ' H',Inv X zc σ' H' s'∧Q σ' H') X.xe s
def PGs(X:Cx)(ts:List Expr)(t:TGs):Prop:=
 ∀(zc:List (Addr×Obj)) (s:Shared) (σ:St) (H:Hp) (vs:List V) (us:List Value) (Q:St→Hp→Prop),Inv X zc σ H s→Vals vs us→t vs σ H Q→
  wpAny (model X.prog X.w) X.A (assignInOrder ((assignEach ts X.env).map (·.2)) us) (fun _ s'=>∃σ' H',Inv X zc σ' H' s'∧Q σ' H') X.xe s
abbrev TSet:=V→V→V→Hp→(Hp→Prop)→Prop
def PSet(X:Cx)(t:TSet):Prop:=
 ∀(zc:List (Addr×Obj)) (s:Shared) (σ:St) (H:Hp) (o i v:V) (ov iv u:Value) (Q:Hp→Prop),Inv X zc σ H s→RelV o ov→RelV i iv→RelV v u→t o i v H Q→
  wpAny (model X.prog X.w) X.A (setItem ov iv u) (fun _ s'=>∃H',Inv X zc σ H' s'∧Q H') X.xe s
section
variable{X:Cx}{pos:Pos}
def ch_1(i:Nat):TG:=fun v σ H Q=>Q (σ.set i (some v)) H
theorem au_9{i:Nat}{x:Str}(hN:X.N.Nodup)(hi:X.N[i]? =some x)(hx:Loc X.env.scope x)(hf:X.fn x=true∨X.env.scope.names.lookup x=some .local:=by first|exact .inl rfl|exact .inr rfl|assumption):PG X (.Name x pos) (ch_1 i):=by
 intro zc s σ H v u Q I r h;exact wpAny_assign_Name (aw_7 I hN hi hx r (fun s' I'=>⟨_,H,I',h⟩) hf)
def gNil:TGs:=fun vs σ H Q=>vs= []∧Q σ H
def dw_0(t:TG)(u:TGs):TGs:=fun vs σ H Q=>∃v r,vs=v::r∧t v σ H fun σ' H'=>u r σ' H' Q
theorem de_8:PGs X [] gNil:=by
 intro zc s σ H vs us Q I r h;obtain⟨e,h⟩:=h;subst e;cases r;exact assignInOrder_nil ⟨σ,H,I,h⟩
theorem bs_8{e:Expr}{es:List Expr}{t:TG}{u:TGs}(h1:PG X e t)(h2:PGs X es u)
  (hs:(assignEach (e::es) X.env).map (·.2)=assign e X.env::(assignEach es X.env).map (·.2):=by rfl):PGs X (e::es) (dw_0 t u):=by
 intro zc s σ H vs us Q I r h;obtain⟨v,vr,e1,h⟩:=h;subst e1;cases r with
 |cons r rr=>
  rw [hs];refine assignInOrder_cons (thn (h1 zc s σ H _ _ _ I r h) fun _ s1 ⟨σ1,H1,I1,q1⟩=> ?_);exact h2 zc s1 σ1 H1 _ _ Q I1 rr q1
def gTup(K:Frag)(n:Nat)(t:TGs):TG:=fun v σ H Q=>∃a xs,v= .ref a∧SqT K H a xs∧xs.length=n∧t xs σ H Q
theorem dp_6{es:List Expr}{k:Nat}{t:TGs}{n:Nat}(hc:X.calm=true)(h:PGs X es t)
  (hn:(assignEach es X.env).length=n:=by rfl) (hst:(assignEach es X.env).findIdx? (·.1)=none:=by rfl):PG X (.Tuple es k pos) (gTup X.K n t):=by
 intro zc s σ H v u Q I r hw;obtain⟨a,xs,e1,hq,hl,hw⟩:=hw;subst e1;cases r;obtain⟨its,rv,ht,hz⟩:=I.tuple hq;refine assign_Tuple_tuple (I.ok.hd hc) ht (by simp [hn,←hl,rv.length]) hst fun h' hx=> ?_;have I1:Inv X zc σ H {s with heap:=h'}:=I.kept (t':=s.toks) fun b o e=>hx b o (Nat.ne_of_lt (Heap.lt_size e)) e;exact h zc _ σ H xs _ Q I1 (by simpa using rv) hw
def gSub(to ti:TE)(t:TSet):TG:=fun v σ H Q=>to σ H fun o H1=>ti σ H1 fun i H2=>t o i v H2 fun H3=>Q σ H3
theorem ct_1{o i:Expr}{to ti:TE}{t:TSet}(ho:PE X o to)(hi:PE X i ti)(hs:PSet X t)
  (ha:∀v,assign (.Subscript o i pos) X.env v=(do
   let ov←holding [v] (eval o X.env)
   let iv←holding [v,ov] (eval i X.env)
   standAt pos
   holding [v,ov,iv] (setItem ov iv v)
   release [v,ov,iv] []):=by intro _;rfl):PG X (.Subscript o i pos) (gSub to ti t):=by
 intro zc s σ H v u Q I r h;rw [ha];refine wpAny_bind (wpAny_holding (thn (ho zc s σ H _ I h) fun ov s1 ⟨x,H1,I1,r1,q1⟩=> ?_));refine wpAny_bind (wpAny_holding (thn (hi zc s1 σ H1 _ I1 q1) fun iv s2 ⟨y,H2,I2,r2,q2⟩=> ?_));refine wpAny_bind (wpAny_standAt (wpAny_bind (wpAny_holding (thn (hs zc s2 σ H2 x y v ov iv u _ I2 r1 r2 r q2) fun _ s3 ⟨H3,I3,q3⟩=> ?_))));exact wpAny_release ⟨σ,H3,I3,q3⟩
def tAsg(te:TE)(g:TG):TS:=fun D σ H=>te σ H fun x H1=>g x σ H1 D.nx
theorem ct_2{tg e:Expr}{te:TE}{g:TG}(he:PE X e te)(hg:PG X tg g)(hs:swapsWithSole [tg] e pos.line X.env=pure false:=by rfl)(hw:swappedStores [tg] e X.env=pure none:=by rfl)
  (h1:(assignEach [tg] X.env).map (·.2)= [assign tg X.env]:=by rfl):PS X (.Assign [tg] e pos) (tAsg te g):=by
 intro zc s σ H D I h;refine wpAny_Assign_stores (thn (he zc s σ H _ I h) fun v s1 ⟨x,H1,I1,r1,q1⟩=> ?_) hs hw;rw [h1];exact thn (hg zc s1 σ H1 x v _ I1 r1 q1) fun _ s2 q=>q
theorem cb_5{i:Nat}{x:Str}{e:Expr}{te:TE}{pos':Pos}(hN:X.N.Nodup)(hi:X.N[i]? =some x)(hx:Loc X.env.scope x)(he:PE X e te)(hs:swapsWith e (some (.Name x pos')) pos.line X.env=pure false:=by rfl)(hf:X.fn x=true∨X.env.scope.names.lookup x=some .local:=by first|exact .inl rfl|exact .inr rfl|assumption):
  PS X (.Assign [.Name x pos'] e pos) (tAsg te (ch_1 i)):=by
 intro zc s σ H D I h;refine wpAny_Assign_Name (thn (he zc s σ H _ I h) fun v s1 ⟨y,H1,I1,r1,q1⟩=> ?_) hs;exact aw_7 I1 hN hi hx r1 (fun s2 I2=>⟨_,H1,I2,q1⟩) hf
end
section
variable{X:Cx}{pos:Pos}
def dp_7(c:TT)(tb:TS):TS:=fun D σ H=>∃W:Nat→St→Hp→Prop,(∃m,W m σ H)∧∀m σ H,W m σ H→
 c σ H fun b H1=>if b=true then∃N:St→Hp→Prop,(∀σ' H',N σ' H'→∃m',m' < m∧W m' σ' H')∧tb {D with nx:=N,ct:=N,bk:=D.nx} σ H1 else D.nx σ H1
theorem ct_3{c:Expr}{body:List Stmt}{tc:TT}{tb:TS}(hp:PassesOwn (model X.prog X.w) X.A X.env X.xe)(hc:PT X c tc)(hb:PSs X body tb):PS X (.While c body [] pos) (dp_7 tc tb):=by
 intro zc s σ H D I h;obtain⟨W,⟨m0,w0⟩,turn⟩:=h;refine wpAny_While (codeAny_whileLoop (fun n s'=>∃σ' H',Inv X zc σ' H' s'∧W n σ' H') ?_ m0 ⟨σ,H,I,w0⟩)
 rintro n s1 ⟨σ1,H1,I1,w1⟩
 refine wpAny_passesOwn hp (thn (hc zc s1 σ1 H1 _ I1 (turn n σ1 H1 w1)) fun b s2 ⟨H2,I2,q2⟩=> ?_);cases b with
 |true=>
  obtain⟨N,hN,q2⟩:=q2;rw [if_pos rfl];refine wpAny_passesOwn hp (thn (hb zc s2 σ1 H2 _ I2 q2) fun f s3 q3=> ?_);cases f with
  |next=>
   obtain⟨σ3,H3,I3,n3⟩:=q3;obtain⟨m',hm,w3⟩:=hN σ3 H3 n3;exact⟨m',hm,σ3,H3,I3,w3⟩
  |cont=>
   obtain⟨σ3,H3,I3,n3⟩:=q3;obtain⟨m',hm,w3⟩:=hN σ3 H3 n3;exact⟨m',hm,σ3,H3,I3,w3⟩
  |brk=>exact q3
  |ret v=>exact q3
 |false=>
  rw [if_neg Bool.false_ne_true];exact wpAny_execs_nil ⟨σ1,H2,I2,q2⟩
end
structure It where
 go:Nat→Hp→Prop
 yld:Nat→Hp→V→Hp→Prop
 stop:Nat→Hp→Prop
def FpOk(X:Cx)(zc:List (Addr×Obj))(H:Hp)(b:Addr):Prop:=
 H b=none∧b≠X.env.locals∧b∉X.fs∧(b∈X.ex∨X.s₀.heap.objs.size≤b)∧(∀x c,X.env.cells.lookup x=some c→c≠b)∧∀p∈X.pn ++ zc,p.1≠b
theorem Inv.fpOk{X:Cx}{zc:List (Addr×Obj)}{σ:St}{H H':Hp}{s:Shared}{b:Addr}(I:Inv X zc σ H s)(hb:s.heap.objs.size≤b)(hn:H' b=none):FpOk X zc H' b:=by
 refine⟨hn,Nat.ne_of_gt (Nat.lt_of_lt_of_le I.lt hb),I.nofs hb, .inr (Nat.le_trans I.sz hb),fun x c e z=> ?_,fun p hp z=> ?_⟩
 ·obtain⟨v,q⟩:=I.cell x c e;exact absurd (Nat.lt_of_lt_of_le q.lt (by rw [z];exact hb)) (Nat.lt_irrefl _)
 ·exact absurd (Nat.lt_of_lt_of_le (Heap.lt_size (I.pin p hp).1) (by rw [z];exact hb)) (Nat.lt_irrefl _)
structure Turn(P:Program)(w:World)(K:Frag)(tg:Expr)(J:It)(fp:List Addr)(it:Addr)(tn:Nat→Heap→Prop):Prop where
 mem:it∈fp
 obj:∀i h,tn i h→∀b∈fp,∃o,h.get? b=some o∧∀v,o.data≠ .cell v
 keep:∀i h h',tn i h→(∀b∈fp,∀o,h.get? b=some o→h'.get? b=some o)→tn i h'
 item:∀(X:Cx),X.prog=P→X.w=w→X.K=K→X.calm=true→∀(i:Nat) (zc:List (Addr×Obj)) (s:Shared) (σ:St) (H:Hp) (E:Value→Shared→Prop),Inv X zc σ H s→(∀b∈fp,FpOk X zc H b)→tn i s.heap→J.go i H→
  wpAny (model P w) X.A (pyNext (.ref it)) (fun r s1=>∃u,r=some u∧
   wpAny (model P w) X.A (letOwnedTupleGo tg (.ref it) u) (fun _ s2=>∃x H',Inv X zc σ H' s2∧RelV x u∧J.yld i H x H'∧tn (i + 1) s2.heap∧∀b∈fp,H' b=none) E s1) E s
 done:∀(X:Cx),X.prog=P→X.w=w→X.K=K→X.calm=true→∀(i:Nat) (zc:List (Addr×Obj)) (s:Shared) (σ:St) (H:Hp) (E:Value→Shared→Prop),Inv X zc σ H s→(∀b∈fp,FpOk X zc H b)→tn i s.heap→J.stop i H→
  wpAny (model P w) X.A (pyNext (.ref it)) (fun r s1=>r=none∧Inv X zc σ H s1) E s
 self:∀(A:Around) (i:Nat) (s:Shared) (Q:Value→Shared→Prop) (E:Value→Shared→Prop),tn i s.heap→Q (.ref it) s→wpAny (model P w) A (pyIter (.ref it)) Q E s
abbrev TI:=St→Hp→(It→Hp→Prop)→Prop
def PIE(X:Cx)(zc:List (Addr×Obj))(σ:St)(tg:Expr)(R:It→Hp→Prop)(itv:Value)(s2:Shared):Prop:=
 ∃(it:Addr) (fp:List Addr) (tn:Nat→Heap→Prop) (J:It) (H':Hp),itv= .ref it∧Inv X zc σ H' s2∧Turn X.prog X.w X.K tg J fp it tn∧tn 0 s2.heap∧(∀b∈fp,FpOk X zc H' b)∧R J H'
def PI(X:Cx)(tg iter:Expr)(wi:TI):Prop:=
 ∀(zc:List (Addr×Obj)) (s:Shared) (σ:St) (H:Hp) (R:It→Hp→Prop),Inv X zc σ H s→wi σ H R→
  wpAny (model X.prog X.w) X.A (eval iter X.env) (fun v s1=>wpAny (model X.prog X.w) X.A (pyIter v) (PIE X zc σ tg R) X.xe s1) X.xe s
theorem bs_9{M:Model}{A:Around}{E:Value→Shared→Prop}{s:Shared}{tg:Expr}{it:Addr}{u:Value}{o:Obj}{n:String}{vs:Array Value}{Q:Unit→Shared→Prop}(ho:s.heap.get? it=some o)(hc:o.cls= .type n)(hd:o.data= .fields vs)
  (hn: ["enumerate", "zip", "dict_itemiterator", "dict_reverseitemiterator", "odict_iterator", "itertools.zip_longest", "itertools.pairwise"].contains n=false) (hQ:Q () s):wpAny M A (letOwnedTupleGo tg (.ref it) u) Q E s:=by
 unfold letOwnedTupleGo;cases tg <;> first
  |exact wpAny_pure hQ
  | (cases u <;> first
    |exact wpAny_pure hQ
    | (refine wpAny_bind (wpAny_load ho ?_)
       rw [hc,hd];show wpAny M A (if(["enumerate", "zip", "dict_itemiterator", "dict_reverseitemiterator", "odict_iterator", "itertools.zip_longest", "itertools.pairwise"].contains n && vs[0]? ==some (rawInt _))=true then _ else _) Q E s;rw [if_neg (by intro h;rw [hn,Bool.false_and] at h;cases h)];exact wpAny_pure hQ))
def Itl(K:Frag)(a:Addr):It:=
 ⟨fun i H=>∃xs x,SqL K H a xs∧xs[i]? =some x,fun i H x H'=>H'=H∧∀xs,SqL K H a xs→xs[i]? =some x,fun i H=>∃xs,SqL K H a xs∧xs.length≤i⟩
def Itt(K:Frag)(a:Addr):It:=
 ⟨fun i H=>∃xs x,SqT K H a xs∧xs[i]? =some x,fun i H x H'=>H'=H∧∀xs,SqT K H a xs→xs[i]? =some x,fun i H=>∃xs,SqT K H a xs∧xs.length≤i⟩
def Itr(lo:Int)(n:Nat):It:=⟨fun i _=>i < n,fun i H x H'=>H'=H∧x= .int (lo + i),fun i _=>n≤i⟩
theorem cm_3{P:Program}{w:World}{K:Frag}{tg:Expr}(a it:Addr):Turn P w K tg (Itl K a) [it] it (fun i h=>h.IsListIter it a i) where
 mem:=by simp
 obj:=fun i h st b hb=>by
  have e:b=it:=by simpa using hb
  subst e;obtain⟨o,e,c,d⟩:=st;exact⟨o,e,fun v z=>by rw [d] at z;cases z⟩
 keep:=fun i h h' st k=>st.at fun o e=>k it (by simp) o e
 item:=by
  intro X hP hw hK hc i zc s σ H E I hf st hg;subst hP hw hK;obtain⟨xs,x,hq,hx⟩:=hg;obtain⟨its,rv,p,hz⟩:=I.list hq;obtain⟨u,hu,ru⟩:=rv.get hx;obtain⟨f0,f1,f2,f3,f4,f5⟩:=hf it (by simp);refine wpAny_pyNext_list_item st p.isList (x:=u) (by simpa using hu) fun h' st' sb=> ?_;have I1:Inv X zc σ H {s with heap:=h'}:=I.turned (t':=s.toks) (fun b o hb e=>(sb.2 b hb).trans e) f0 f1 f3 f4 f5;obtain⟨o,e,c,d⟩:=id st';exact⟨u,rfl,bs_9 (s:={s with heap:=h'}) e c d (by decide) ⟨x,H,I1,ru,⟨rfl,fun ys hy=>by rw [I.list_inj hy hq];exact hx⟩,st',fun b hb=>(hf b hb).1⟩⟩
 done:=by
  intro X hP hw hK hc i zc s σ H E I hf st hg;subst hP hw hK;obtain⟨xs,hq,hx⟩:=hg;obtain⟨its,rv,p,hz⟩:=I.list hq;obtain⟨f0,f1,f2,f3,f4,f5⟩:=hf it (by simp);have hl:=rv.length;exact wpAny_pyNext_list_end (I.ok.hd hc) st p.isList (by simp;omega) fun h' eb=>⟨rfl,I.turned (t':=s.toks) (fun b o hb e=>eb b o hb e) f0 f1 f3 f4 f5⟩
 self:=fun _ _ _ _ _ st h=>wpAny_pyIter_listiter st h
theorem cb_6{P:Program}{w:World}{K:Frag}{tg:Expr}(a it:Addr):Turn P w K tg (Itt K a) [it] it (fun i h=>h.IsTupleIter it a i) where
 mem:=by simp
 obj:=fun i h st b hb=>by
  have e:b=it:=by simpa using hb
  subst e;obtain⟨o,e,c,d⟩:=st;exact⟨o,e,fun v z=>by rw [d] at z;cases z⟩
 keep:=fun i h h' st k=>st.at fun o e=>k it (by simp) o e
 item:=by
  intro X hP hw hK hc i zc s σ H E I hf st hg;subst hP hw hK;obtain⟨xs,x,hq,hx⟩:=hg;obtain⟨its,rv,p,hz⟩:=I.tuple hq;obtain⟨u,hu,ru⟩:=rv.get hx;obtain⟨f0,f1,f2,f3,f4,f5⟩:=hf it (by simp);refine wpAny_pyNext_tuple_item st (show s.heap.IsTuple a its.toArray from p) (x:=u) (by simpa using hu) fun h' st' sb=> ?_;have I1:Inv X zc σ H {s with heap:=h'}:=I.turned (t':=s.toks) (fun b o hb e=>(sb.2 b hb).trans e) f0 f1 f3 f4 f5;obtain⟨o,e,c,d⟩:=id st';exact⟨u,rfl,bs_9 (s:={s with heap:=h'}) e c d (by decide) ⟨x,H,I1,ru,⟨rfl,fun ys hy=>by rw [I.tuple_inj hy hq];exact hx⟩,st',fun b hb=>(hf b hb).1⟩⟩
 done:=by
  intro X hP hw hK hc i zc s σ H E I hf st hg;subst hP hw hK;obtain⟨xs,hq,hx⟩:=hg;obtain⟨its,rv,p,hz⟩:=I.tuple hq;obtain⟨f0,f1,f2,f3,f4,f5⟩:=hf it (by simp);have hl:=rv.length;exact wpAny_pyNext_tuple_end (I.ok.hd hc) st (show s.heap.IsTuple a its.toArray from p) (by simp;omega) fun h' eb=>⟨rfl,I.turned (t':=s.toks) (fun b o hb e=>eb b o hb e) f0 f1 f3 f4 f5⟩
 self:=fun _ _ _ _ _ st h=>wpAny_pyIter_tupleiter st h
theorem cb_7{P:Program}{w:World}{K:Frag}{tg:Expr}(it:Addr)(lo:Int)(n:Nat):Turn P w K tg (Itr lo n) [it] it (fun i h=>IsRangeIter h it (lo + (i:Nat) * 1) ((n:Int) - (i:Nat)) 1) where
 mem:=by simp
 obj:=fun i h st b hb=>by
  have e:b=it:=by simpa using hb
  subst e;exact⟨_,st,fun v z=>by
   have z':Data.fields _=Data.cell v:=z;cases z'⟩
 keep:=fun i h h' st k=>k it (by simp) _ st
 item:=by
  intro X hP hw hK hc i zc s σ H E I hf st hg;subst hP hw hK;obtain⟨f0,f1,f2,f3,f4,f5⟩:=hf it (by simp);have W:=Walks.range (prog:=X.prog) (w:=X.w) (I.ok.hd hc) it lo 1 n;refine W.item i s _ _ hg st fun v h' tk hv st' kk=> ?_;obtain⟨t,rfl⟩:=hv;have I1:Inv X zc σ H {s with heap:=h',toks:=tk}:=I.turned (fun b o hb e=>kk b o (by simpa using hb) e) f0 f1 f3 f4 f5;refine⟨_,rfl,bs_9 (s:={s with heap:=h',toks:=tk}) (n:= "range_iterator") st' rfl rfl (by decide) ⟨.int (lo + i),H,I1,⟨t, ?_⟩,⟨rfl,rfl⟩,st',fun b hb=>(hf b hb).1⟩⟩;rw [Int.mul_one]
 done:=by
  intro X hP hw hK hc i zc s σ H E I hf st hg;subst hP hw hK;obtain⟨f0,f1,f2,f3,f4,f5⟩:=hf it (by simp);exact wpAny_pyNext_range_end (I.ok.hd hc) st (by have:n≤i:=hg;omega) fun h' eb=>⟨rfl,I.turned (t':=s.toks) (fun b o hb e=>eb b o hb e) f0 f1 f3 f4 f5⟩
 self:=fun _ _ _ _ _ st h=>wpAny_pyIter_rangeiter st h
section
variable{X:Cx}{tg:Expr}
theorem bt_0{zc:List (Addr×Obj)}{σ:St}{H:Hp}{s:Shared}{R:It→Hp→Prop}{E:Value→Shared→Prop}{lo hi:Int}{t u v:Tok}{tk:Nat}(I:Inv X zc σ H s)(h1: -(2 ^ 62)≤lo)(h2:lo < 2 ^ 62)(h3: -(2 ^ 62)≤hi)(h4:hi < 2 ^ 62)
  (q:R (Itr lo (hi - lo).toNat) H):wpAny (model X.prog X.w) X.A (pyIter (.ref s.heap.objs.size)) (PIE X zc σ tg R) E {s with heap:=s.heap.push {cls:= .type "range",data:= .fields #[.int lo t, .int hi u, .int 1 v]},toks:=tk}:=by
 refine wpAny_pyIter_range (IsRange.new ..) (small_one h1 h2 h3 h4) ?_;have I1:Inv X zc σ H {s with heap:=s.heap.push {cls:= .type "range",data:= .fields #[.int lo t, .int hi u, .int 1 v]},toks:=tk}:=I.kept fun b o e=>Heap.get?_push_of_some _ e;refine⟨(s.heap.push {cls:= .type "range",data:= .fields #[.int lo t, .int hi u, .int 1 v]}).objs.size, [(s.heap.push {cls:= .type "range",data:= .fields #[.int lo t, .int hi u, .int 1 v]}).objs.size],_,_,H,rfl,
  I1.kept (t':=tk) fun b o e=>Heap.get?_push_of_some _ e,cb_7 _ lo (hi - lo).toNat, ?_,fun b hb=> ?_,q⟩
 ·have e1:lo + ((0:Nat):Int) * 1=lo:=by simp
  have e2:(((hi - lo).toNat:Nat):Int) - ((0:Nat):Int)=Builtin.Range.rangeSize lo hi 1:=by rw [rangeSize_one];split <;> omega
  show IsRangeIter _ _ (lo + ((0:Nat):Int) * 1) ((((hi - lo).toNat:Nat):Int) - ((0:Nat):Int)) 1;rw [e1,e2];exact Heap.get?_push_size _ rfl
 ·have e:b=(s.heap.push {cls:= .type "range",data:= .fields #[.int lo t, .int hi u, .int 1 v]}).objs.size:=by simpa using hb
  subst e;exact I1.fpOk (Nat.le_refl _) (I1.hok.fresh (Nat.le_refl _))
def dw_1(ta:TA):TI:=fun σ H R=>ta σ H fun vs H1=>∃j:Int,vs= [.int j]∧ -(2 ^ 62)≤j∧j < 2 ^ 62∧R (Itr 0 j.toNat) H1
def dw_2(ta:TA):TI:=fun σ H R=>ta σ H fun vs H1=>∃i j:Int,vs= [.int i, .int j]∧(-(2 ^ 62)≤i∧i < 2 ^ 62∧ -(2 ^ 62)≤j∧j < 2 ^ 62)∧R (Itr i (j - i).toNat) H1
theorem cm_4{a:Expr}{ta:TA}{p pos:Pos}(hg:Gl X "range")(hm:X.mg "range" =none)(ha:PA X [a] ta)(hs:starEach [a] X.env= [(false,eval a X.env)]:=by rfl):PI X tg (.Call (.Name "range" p) [a] [] pos) (dw_1 ta):=by
 intro zc s σ H R I h;refine Call_ (z_7 I hg hm boot_range (PyProof.Rows.callWith_type1 (thn (ha pos zc s σ H _ I h) fun us s1 ⟨vs,H1,I1,r1,q1⟩=> ?_) hs rfl));obtain⟨j,e,q1,q2,q⟩:=q1;subst e;cases r1 with
 |cons r rr=>
  cases rr;obtain⟨t,rfl⟩:=r;exact call_range_1 (bt_0 I1 (by omega) (by omega) q1 q2 (by simpa using q))
theorem cm_5{a b:Expr}{ta:TA}{p pos:Pos}(hg:Gl X "range")(hm:X.mg "range" =none)(ha:PA X [a,b] ta)(hs:starEach [a,b] X.env= [(false,eval a X.env),(false,eval b X.env)]:=by rfl)(hs2:starEach [b] X.env= [(false,eval b X.env)]:=by rfl):
  PI X tg (.Call (.Name "range" p) [a,b] [] pos) (dw_2 ta):=by
 intro zc s σ H R I h;refine Call_ (z_7 I hg hm boot_range (PyProof.Rows.callWith_type1 (thn (ha pos zc s σ H _ I h) fun us s1 ⟨vs,H1,I1,r1,q1⟩=> ?_) (by rw [hs,hs2]) (by rw [hs2];rfl)));obtain⟨i,j,e,⟨q1,q2,q3,q4⟩,q⟩:=q1;subst e;cases r1 with
 |cons r rr=>
  cases rr with
  |cons r' rr=>
   cases rr;obtain⟨t,rfl⟩:=r;obtain⟨t',rfl⟩:=r';exact call_range_2 (bt_0 I1 q1 q2 q3 q4 q)
def tFor(wi:TI)(g:TG)(tb:TS):TS:=fun D σ H=>wi σ H fun J H1=>∃W:Nat→Nat→St→Hp→Prop,(∃m,W 0 m σ H1)∧∀i m σ H,W i m σ H→
 (J.stop i H∧D.nx σ H)∨(J.go i H∧∃N:St→Hp→Prop,(∀σ' H',N σ' H'→∃m',m' < m∧W (i + 1) m' σ' H')∧∀x H',J.yld i H x H'→g x σ H' fun σ2 H2=>tb {D with nx:=N,ct:=N,bk:=D.nx} σ2 H2)
def aw_8(fp:List Addr)(h:Heap):List (Addr×Obj):=fp.filterMap fun b=>(h.get? b).map fun o=>(b,o)
theorem z_8{fp:List Addr}{h:Heap}{b:Addr}{o:Obj}(hb:b∈fp)(e:h.get? b=some o):(b,o)∈aw_8 fp h:=List.mem_filterMap.mpr ⟨b,hb,by rw [e];rfl⟩
theorem cm_6{fp:List Addr}{h:Heap}{p:Addr×Obj}(hp:p∈aw_8 fp h):p.1∈fp∧h.get? p.1=some p.2:=by
 obtain⟨b,hb,e⟩:=List.mem_filterMap.mp hp;cases q:h.get? b with
 |none=>rw [q] at e;cases e
 |some o=>
  rw [q] at e;have e':(b,o)=p:=Option.some.inj e;subst e';exact⟨hb,q⟩
theorem Inv.pinned{zc:List (Addr×Obj)}{σ:St}{H:Hp}{s:Shared}{fp:List Addr}(I:Inv X zc σ H s)(hf:∀b∈fp,FpOk X zc H b)(ho:∀b∈fp,∃o,s.heap.get? b=some o∧∀v,o.data≠ .cell v):Inv X (zc ++ aw_8 fp s.heap) σ H s:=
 I.pins_of fun p hp=>(List.mem_append.mp hp).elim (fun z=>I.pin p (List.mem_append_right _ z)) fun z=>by
  obtain⟨hb,e⟩:=cm_6 z;obtain⟨f0,f1,f2,_⟩:=hf p.1 hb;obtain⟨o,e',d⟩:=ho p.1 hb;rw [e] at e';cases e';exact⟨e,f0,f1,f2,d⟩
theorem Inv.unpinned{zc pl:List (Addr×Obj)}{σ:St}{H:Hp}{s:Shared}(I:Inv X (zc ++ pl) σ H s):Inv X zc σ H s:=I.pins_of fun p hp=>I.pin p (List.mem_append_right _ (List.mem_append_left _ hp))
theorem dp_8{iter:Expr}{body:List Stmt}{wi:TI}{g:TG}{tb:TS}{pos:Pos}(hp:PassesOwn (model X.prog X.w) X.A X.env X.xe)(hc:X.calm=true)(hi:PI X tg iter wi)(hg:PG X tg g)(hb:PSs X body tb)
  (hs:∀x,foldedSetIterable iter X.env x=pure x:=by intro _;rfl):PS X (.For tg iter body [] pos) (tFor wi g tb):=by
 intro zc s σ H D I h;refine wpAny_For (thn (hi zc s σ H _ I h) fun v s1 h1=>thn h1 fun itv s2 h2=> ?_) hs;obtain⟨it,fp,tn,J,H2,e,I2,T,st2,f2,W,⟨m0,w0⟩,turn⟩:=h2;subst e
 
 have bx:∀{H':Hp},(∀b∈fp,H' b=none)→∀b∈fp,FpOk X zc H' b:=fun hn b hb=>⟨hn b hb,(f2 b hb).2⟩;refine codeAny_forLoop_any (fun n s'=>∃i σ' H',Inv X zc σ' H' s'∧tn i s'.heap∧(∀b∈fp,H' b=none)∧W i n σ' H') ?_ m0 ⟨0,σ,H2,I2,st2,fun b hb=>(f2 b hb).1,w0⟩
 rintro n s3 ⟨i,σ3,H3,I3,st3,fr3,w3⟩
 rcases turn i n σ3 H3 w3 with⟨stop,qn⟩|⟨go,N,hN,step⟩
 ·refine wpAny_passesOwn hp (thn (T.done X rfl rfl rfl hc i zc s3 σ3 H3 X.xe I3 (bx fr3) st3 stop) fun r s4 ⟨hr,I4⟩=> ?_);subst hr;exact wpAny_execs_nil ⟨σ3,H3,I4,qn⟩
 ·refine wpAny_passesOwn hp (thn (T.item X rfl rfl rfl hc i zc s3 σ3 H3 X.xe I3 (bx fr3) st3 go) fun r s4 ⟨u,hr,h4⟩=> ?_);subst hr;refine wpAny_passesOwn hp (thn h4 fun _ s5 ⟨x,H5,I5,r5,y5,st5,fr5⟩=> ?_);have I5':=I5.pinned (bx fr5) (T.obj _ _ st5);refine wpAny_passesOwn hp (thn (hg _ s5 σ3 H5 x u _ I5' r5 (step x H5 y5)) fun _ s6 ⟨σ6,H6,I6,q6⟩=> ?_);refine wpAny_passesOwn hp (thn (hb _ s6 σ6 H6 _ I6 q6) fun f s7 q7=> ?_);have again:∀{σ7:St} {H7:Hp},Inv X (zc ++ aw_8 fp s5.heap) σ7 H7 s7→N σ7 H7→∃m,m < n∧∃i σ' H',Inv X zc σ' H' s7∧tn i s7.heap∧(∀b∈fp,H' b=none)∧W i m σ' H':=fun{σ7 H7} I7 n7=>by
   obtain⟨m',hm,w7⟩:=hN σ7 H7 n7;refine⟨m',hm,i + 1,σ7,H7,I7.unpinned,T.keep _ _ _ st5 fun b hb o e=>(I7.pin (b,o) (List.mem_append_right _ (List.mem_append_right _ (z_8 hb e)))).1,fun b hb=> ?_,w7⟩;obtain⟨o,e,d⟩:=T.obj _ _ st5 b hb;exact(I7.pin (b,o) (List.mem_append_right _ (List.mem_append_right _ (z_8 hb e)))).2.1
  cases f with
  |next=>obtain⟨σ7,H7,I7,n7⟩:=q7;exact again I7 n7
  |cont=>obtain⟨σ7,H7,I7,n7⟩:=q7;exact again I7 n7
  |brk=>obtain⟨σ7,H7,I7,q7⟩:=q7;exact⟨σ7,H7,I7.unpinned,q7⟩
  |ret v=>obtain⟨x7,σ7,H7,I7,r7,q7⟩:=q7;exact⟨x7,σ7,H7,I7.unpinned,r7,q7⟩
end
abbrev R2:=V→V→Hp→VK→Prop
def OpR(X:Cx)(f:Value→Value→Sem Value)(r:R2):Prop:=
 ∀(zc:List (Addr×Obj)) (s:Shared) (σ:St) (H:Hp) (x y:V) (v u:Value) (Q:VK),Inv X zc σ H s→RelV x v→RelV y u→r x y H Q→
  wpAny (model X.prog X.w) X.A (f v u) (EP X zc σ Q) X.xe s
def ab_2(X:Cx)(f:Value)(r:List V→Hp→VK→Prop):Prop:=
 ∀(zc:List (Addr×Obj)) (s:Shared) (σ:St) (H:Hp) (xs:List V) (us:List Value) (Q:VK),Inv X zc σ H s→Vals xs us→r xs H Q→
  wpAny (model X.prog X.w) X.A (call f us) (EP X zc σ Q) X.xe s
def TruR(X:Cx)(r:V→Hp→(Bool→Hp→Prop)→Prop):Prop:=
 ∀(zc:List (Addr×Obj)) (s:Shared) (σ:St) (H:Hp) (x:V) (v:Value) (Q:Bool→Hp→Prop),Inv X zc σ H s→RelV x v→r x H Q→
  wpAny (model X.prog X.w) X.A (truthy v) (TP X zc σ Q) X.xe s
def tOp(r:R2)(ta tb:TE):TE:=fun σ H Q=>ta σ H fun x H1=>tb σ H1 fun y H2=>r x y H2 Q
def rI(C:Int→Int→Prop)(g:Int→Int→V):R2:=fun x y H Q=>∃i j,x= .int i∧y= .int j∧C i j∧Q (g i j) H
def rI0(g:Int→Int→V):R2:=fun x y H Q=>∃i j,x= .int i∧y= .int j∧Q (g i j) H
section
variable{X:Cx}{a b c:Expr}{ta tb tc:TE}{pos:Pos}
theorem binT(ha:PE X a ta)(hb:PE X b tb){zc:List (Addr×Obj)}{s:Shared}{σ:St}{H:Hp}{R:V→V→Hp→Prop}(I:Inv X zc σ H s)
  (h:ta σ H fun x H1=>tb σ H1 fun y H2=>R x y H2) {Q:Value→Shared→Prop} {f:Value→Value→Sem Value}
  (hf:∀v u s2 x y H2,Inv X zc σ H2 s2→RelV x v→RelV y u→R x y H2→wpAny (model X.prog X.w) X.A (f v u) Q X.xe s2):
  wpAny (model X.prog X.w) X.A (eval a X.env) (fun v s₁=>wpAny (model X.prog X.w) X.A (eval b X.env) (fun u s₂=>wpAny (model X.prog X.w) X.A (f v u) Q X.xe s₂) X.xe s₁) X.xe s:=by
 refine thn (ha zc s σ H _ I h) fun v s1 ⟨x,H1,I1,r1,q1⟩=> ?_;refine thn (hb zc s1 σ H1 _ I1 q1) fun u s2 ⟨y,H2,I2,r2,q2⟩=> ?_;exact hf v u s2 x y H2 I2 r1 r2 q2
theorem dm_7{op:Operator}{r:R2}(ho:OpR X (binaryOp op) r)(ha:PE X a ta)(hb:PE X b tb):PE X (.BinOp a op b pos) (tOp r ta tb):=by
 intro zc s σ H Q I h;exact wpAny_BinOp (binT ha hb I h fun v u s2 x y H2 I2 rx ry q=>ho zc s2 σ H2 x y v u Q I2 rx ry q)
theorem opI{f:Value→Value→Sem Value}{C:Int→Int→Prop}{g:Int→Int→Int}
  (rule:∀(i j:Int) (t u:Tok) (s:Shared) (Q:Value→Shared→Prop) (E:Value→Shared→Prop),C i j→Q (.int (g i j) s.toks) {s with toks:=s.toks + 1}→wpAny (model X.prog X.w) X.A (f (.int i t) (.int j u)) Q E s):
  OpR X f (rI C fun i j=> .int (g i j)):=by
 intro zc s σ H x y v u Q I rx ry h;obtain⟨i,j,rfl,rfl,hc,q⟩:=h;obtain⟨t,rfl⟩:=rx;obtain⟨t',rfl⟩:=ry;exact rule i j t t' s _ _ hc ⟨.int (g i j),H,I.tok _,⟨_,rfl⟩,q⟩
theorem opI0{f:Value→Value→Sem Value}{g:Int→Int→Int}
  (rule:∀(i j:Int) (t u:Tok) (s:Shared) (Q:Value→Shared→Prop) (E:Value→Shared→Prop),Q (.int (g i j) s.toks) {s with toks:=s.toks + 1}→wpAny (model X.prog X.w) X.A (f (.int i t) (.int j u)) Q E s):
  OpR X f (rI0 fun i j=> .int (g i j)):=by
 intro zc s σ H x y v u Q I rx ry h;obtain⟨i,j,rfl,rfl,q⟩:=h;obtain⟨t,rfl⟩:=rx;obtain⟨t',rfl⟩:=ry;exact rule i j t t' s _ _ ⟨.int (g i j),H,I.tok _,⟨_,rfl⟩,q⟩
theorem opB0{f:Value→Value→Sem Value}{g:Int→Int→Bool}
  (rule:∀(i j:Int) (t u:Tok) (s:Shared) (Q:Value→Shared→Prop) (E:Value→Shared→Prop),Q (.bool (g i j)) s→wpAny (model X.prog X.w) X.A (f (.int i t) (.int j u)) Q E s):
  OpR X f (rI0 fun i j=> .bl (g i j)):=by
 intro zc s σ H x y v u Q I rx ry h;obtain⟨i,j,rfl,rfl,q⟩:=h;obtain⟨t,rfl⟩:=rx;obtain⟨t',rfl⟩:=ry;exact rule i j t t' s _ _ ⟨.bl (g i j),H,I,rfl,q⟩
def CPow(i j:Int):Prop:=0≤j∧j≤1000000∧i.natAbs < 2 ^ 64
def CMul(i j:Int):Prop:=(-(2 ^ 64) < i∧i < 2 ^ 64)∨(-(2 ^ 64) < j∧j < 2 ^ 64)
theorem CMul.ok{i j:Int}(h:CMul i j):IntMulOk i j:=by
 rcases h with⟨h1,h2⟩|⟨h1,h2⟩
 ·exact .of_left (intBits_le_64 h1 h2)
 ·exact .of_right (intBits_le_64 h1 h2)
theorem dq_0:OpR X (binaryOp .Add) (rI0 fun i j=> .int (i + j)):=opI0 fun _ _ _ _ _ _ _ q=>add_int q
theorem dq_1:OpR X (binaryOp .Mult) (rI CMul fun i j=> .int (i * j)):=opI fun _ _ _ _ _ _ _ hc q=>mul_int q hc.ok
theorem dq_2:OpR X (binaryOp .Mod) (rI (fun _ j=>0 < j) fun i j=> .int (i % j)):=opI fun i j _ _ _ _ _ hc q=>by
 have h1:(0:Int) < j:=hc;exact mod_int' (by omega) (by rw [Int.fmod_eq_emod_of_nonneg i (by omega)];exact q)
theorem dq_3:OpR X (binaryOp .Pow) (rI CPow fun i j=> .int (i ^ j.toNat)):=opI fun _ _ _ _ _ _ _ hc q=>pow_int_small hc.1 hc.2.1 hc.2.2 q
end
def scal:V→V→Bool
 | .non, .non=>true| .non, .int _=>true| .int _, .non=>true| .non, .bl _=>true| .bl _, .non=>true| .non, .str _=>true| .str _, .non=>true
 | .int _, .int _=>true| .bl _, .bl _=>true| .str _, .str _=>true| .byt _, .byt _=>true
 | .int _, .str _=>true| .str _, .int _=>true| .bl _, .str _=>true| .str _, .bl _=>true
 |_,_=>false
def rEq:R2:=fun x y H Q=>scal x y=true∧Q (.bl (decide (x=y))) H
def rNe:R2:=fun x y H Q=>scal x y=true∧Q (.bl (!decide (x=y))) H
theorem ch_2{i j:Int}:decide (V.int i=V.int j)=(i ==j):=by
 rw [Bool.eq_iff_iff];simp
theorem ct_4{i j:Bool}:decide (V.bl i=V.bl j)=(i ==j):=by
 rw [Bool.eq_iff_iff];simp
theorem ch_3{i j:Str}:decide (V.str i=V.str j)=(i ==j):=by
 rw [Bool.eq_iff_iff];simp
theorem ch_4{i j:Array UInt8}:decide (V.byt i=V.byt j)=(i.toList ==j.toList):=by
 rw [Bool.eq_iff_iff];cases i;cases j;simp
section
variable{X:Cx}{a b c:Expr}{ta tb tc:TE}{pos:Pos}
theorem e_2{zc:List (Addr×Obj)}{σ:St}{H:Hp}{s:Shared}{Q:VK}{k k':Bool}(I:Inv X zc σ H s)(q:Q (.bl k) H)(e:k=k'):EP X zc σ Q (.bool k') s:=by
 subst e;exact⟨.bl k,H,I,rfl,q⟩
theorem dw_5:OpR X (compareOp .Eq) rEq:=by
 intro zc s σ H x y v u Q I rx ry h;obtain⟨hs,q⟩:=h;cases x with
 |non=>
  cases rx;cases y with
  |non=>cases ry;exact PySem.EqNone.eq_none_none (e_2 I q (by simp))
  |bl j=>cases ry;exact PySem.EqNone.eq_none_bool (e_2 I q (by simp))
  |int j=>obtain⟨t',rfl⟩:=ry;exact PySem.EqNone.eq_none_int (e_2 I q (by simp))
  |str j=>obtain⟨t',rfl⟩:=ry;exact PySem.EqNone.eq_none_str (e_2 I q (by simp))
  |_=>exact absurd (show false=true from hs) Bool.false_ne_true
 |bl i=>
  cases rx;cases y with
  |non=>cases ry;exact PySem.EqNone.eq_bool_none (e_2 I q (by simp))
  |bl j=>cases ry;exact eq_bool (e_2 I q ct_4)
  |str j=>obtain⟨t',rfl⟩:=ry;exact PySem.EqMixed.eq_bool_str (e_2 I q (by simp))
  |_=>exact absurd (show false=true from hs) Bool.false_ne_true
 |int i=>
  obtain⟨t,rfl⟩:=rx;cases y with
  |non=>cases ry;exact PySem.EqNone.eq_int_none (e_2 I q (by simp))
  |int j=>obtain⟨t',rfl⟩:=ry;exact eq_int (e_2 I q ch_2)
  |str j=>obtain⟨t',rfl⟩:=ry;exact PySem.EqMixed.eq_int_str (e_2 I q (by simp))
  |_=>exact absurd (show false=true from hs) Bool.false_ne_true
 |str i=>
  obtain⟨t,rfl⟩:=rx;cases y with
  |non=>cases ry;exact PySem.EqNone.eq_str_none (e_2 I q (by simp))
  |bl j=>cases ry;exact PySem.EqMixed.eq_str_bool (e_2 I q (by simp))
  |int j=>obtain⟨t',rfl⟩:=ry;exact PySem.EqMixed.eq_str_int (e_2 I q (by simp))
  |str j=>obtain⟨t',rfl⟩:=ry;exact eq_str (e_2 I q ch_3)
  |_=>exact absurd (show false=true from hs) Bool.false_ne_true
 |byt i=>
  obtain⟨t,rfl⟩:=rx;cases y with
  |byt j=>obtain⟨t',rfl⟩:=ry;exact eq_bytes (e_2 I q ch_4)
  |_=>exact absurd (show false=true from hs) Bool.false_ne_true
 |_=>cases y <;> exact absurd (show false=true from hs) Bool.false_ne_true
theorem dw_6:OpR X (compareOp .NotEq) rNe:=by
 intro zc s σ H x y v u Q I rx ry h;obtain⟨hs,q⟩:=h;cases x with
 |non=>
  cases rx;cases y with
  |non=>cases ry;exact PySem.EqNone.ne_none_none (e_2 I q (by simp))
  |bl j=>cases ry;exact PySem.EqNone.ne_none_bool (e_2 I q (by simp))
  |int j=>obtain⟨t',rfl⟩:=ry;exact PySem.EqNone.ne_none_int (e_2 I q (by simp))
  |str j=>obtain⟨t',rfl⟩:=ry;exact PySem.EqNone.ne_none_str (e_2 I q (by simp))
  |_=>exact absurd (show false=true from hs) Bool.false_ne_true
 |bl i=>
  cases rx;cases y with
  |non=>cases ry;exact PySem.EqNone.ne_bool_none (e_2 I q (by simp))
  |bl j=>cases ry;exact ne_bool (e_2 I q (congrArg not ct_4))
  |str j=>obtain⟨t',rfl⟩:=ry;exact PySem.EqMixed.ne_bool_str (e_2 I q (by simp))
  |_=>exact absurd (show false=true from hs) Bool.false_ne_true
 |int i=>
  obtain⟨t,rfl⟩:=rx;cases y with
  |non=>cases ry;exact PySem.EqNone.ne_int_none (e_2 I q (by simp))
  |int j=>obtain⟨t',rfl⟩:=ry;exact ne_int (e_2 I q (congrArg not ch_2))
  |str j=>obtain⟨t',rfl⟩:=ry;exact PySem.EqMixed.ne_int_str (e_2 I q (by simp))
  |_=>exact absurd (show false=true from hs) Bool.false_ne_true
 |str i=>
  obtain⟨t,rfl⟩:=rx;cases y with
  |non=>cases ry;exact PySem.EqNone.ne_str_none (e_2 I q (by simp))
  |bl j=>cases ry;exact PySem.EqMixed.ne_str_bool (e_2 I q (by simp))
  |int j=>obtain⟨t',rfl⟩:=ry;exact PySem.EqMixed.ne_str_int (e_2 I q (by simp))
  |str j=>obtain⟨t',rfl⟩:=ry;exact ne_str (e_2 I q (congrArg not ch_3))
  |_=>exact absurd (show false=true from hs) Bool.false_ne_true
 |byt i=>
  obtain⟨t,rfl⟩:=rx;cases y with
  |byt j=>obtain⟨t',rfl⟩:=ry;exact ne_bytes (e_2 I q (congrArg not ch_4))
  |_=>exact absurd (show false=true from hs) Bool.false_ne_true
 |_=>cases y <;> exact absurd (show false=true from hs) Bool.false_ne_true
theorem dw_7:OpR X (compareOp .Lt) (rI0 fun i j=> .bl (decide (i < j))):=opB0 fun _ _ _ _ _ _ _ q=>lt_int q
theorem dw_8:OpR X (compareOp .LtE) (rI0 fun i j=> .bl (decide (i≤j))):=opB0 fun _ _ _ _ _ _ _ q=>le_int q
theorem dw_9:OpR X (compareOp .Gt) (rI0 fun i j=> .bl (decide (j < i))):=opB0 fun _ _ _ _ _ _ _ q=>gt_int q
theorem dx_0:OpR X (compareOp .GtE) (rI0 fun i j=> .bl (decide (j≤i))):=opB0 fun _ _ _ _ _ _ _ q=>ge_int q
theorem cm_7:OpR X (compareOp .In) (fun x y H Q=>∃i j,x= .str i∧y= .str j∧Q (.bl (!(Builtin.Str.occurrences j i 0 j.length 1).isEmpty)) H):=by
 intro zc s σ H x y v u Q I rx ry h;obtain⟨i,j,rfl,rfl,q⟩:=h;obtain⟨t,rfl⟩:=rx;obtain⟨t',rfl⟩:=ry;exact in_str (e_2 I q rfl)
theorem dq_4:OpR X (compareOp .Is) (fun x y H Q=>y= .non∧Q (.bl (decide (x= .non))) H):=by
 intro zc s σ H x y v u Q I rx ry h;obtain⟨rfl,q⟩:=h;cases ry;refine is_none_gen (e_2 I q ?_);cases x <;> first
  |(cases rx;rfl)
  |(obtain⟨t,rfl⟩:=rx;rfl)
theorem b_8(b:Expr){op:CmpOp}(h:op≠ .In:=by decide)(h2:op≠ .NotIn:=by decide):behindInMarks op b=false:=by
 have e1:(op ==CmpOp.In)=false:=by cases op <;> first|rfl|exact absurd rfl h
 have e2:(op ==CmpOp.NotIn)=false:=by cases op <;> first|rfl|exact absurd rfl h2
 cases b <;> simp [behindInMarks,e1,e2]
theorem df_1{op:CmpOp}{r:R2}(ho:OpR X (compareOp op) r)(ha:PE X a ta)(hb:PE X b tb)(hm:behindInMarks op b=false):PE X (.Compare a [op] [b] pos) (tOp r ta tb):=by
 intro zc s σ H Q I h;exact wpAny_Compare1 (binT ha hb I h fun v u s2 x y H2 I2 rx ry q=>ho zc s2 σ H2 x y v u Q I2 rx ry q) hm
def dx_1(t:TE):TT:=fun σ H Q=>t σ H fun x H'=>∃k,x= .bl k∧Q k H'
theorem df_2{op:CmpOp}{r:R2}(ho:OpR X (compareOp op) r)(ha:PE X a ta)(hb:PE X b tb)(hm:behindInMarks op b=false):PT X (.Compare a [op] [b] pos) (dx_1 (tOp r ta tb)):=by
 intro zc s σ H Q I h;refine wpAny_isTrue_Compare1 (thn (ha zc s σ H _ I h) fun v s1 ⟨x,H1,I1,r1,q1⟩=>thn (hb zc s1 σ H1 _ I1 q1) fun u s2 ⟨y,H2,I2,r2,q2⟩=>
  thn (ho zc s2 σ H2 x y v u _ I2 r1 r2 q2) fun c s3 ⟨z,H3,I3,r3,k,e,q3⟩=> ?_) hm
 subst e;cases r3;exact wpAny_truthy_bool ⟨H3,I3,q3⟩
def ct_5(r r':R2)(ta tb tc:TE):TE:=fun σ H Q=>ta σ H fun x H1=>tb σ H1 fun y H2=>r x y H2 fun z H3=>∃k,z= .bl k∧
 (if k=true then tc σ H3 fun w' H4=>r' y w' H4 Q else Q (.bl false) H3)
theorem ct_6{op op':CmpOp}{r r':R2}(ho:OpR X (compareOp op) r)(ho':OpR X (compareOp op') r')(ha:PE X a ta)(hb:PE X b tb)(hc:PE X c tc)
  (hm:lastMarks [op,op'] [b,c]=false:=by with_unfolding_all rfl):PE X (.Compare a [op,op'] [b,c] pos) (ct_5 r r' ta tb tc):=by
 intro zc s σ H Q I h;refine Compare_chain (thn (ha zc s σ H _ I h) fun v s1 ⟨x,H1,I1,r1,q1⟩=>chain_link (thn (hb zc s1 σ H1 _ I1 q1) fun u s2 ⟨y,H2,I2,r2,q2⟩=>
  thn (ho zc s2 σ H2 x y v u _ I2 r1 r2 q2) fun d s3 ⟨z,H3,I3,r3,k,e,q3⟩=> ?_)) hm
 subst e;cases r3;refine wpAny_truthy_bool ?_;cases k with
 |false=>exact ite_ff ⟨.bl false,H3,I3,rfl,q3⟩
 |true=>exact ite_tt (chain_last (thn (hc zc s3 σ H3 _ I3 q3) fun w' s4 ⟨z',H4,I4,r4,q4⟩=>ho' zc s4 σ H4 y z' u w' Q I4 r2 r4 q4))
def TruV(K:Frag)(x:V)(H:Hp)(k:Bool):Prop:=
 match x with
 | .non=>k=false
 | .bl b=>k=b
 | .int i=>k=(i != 0)
 | .str y=>y.length≤sizeLine∧k=((y.length:Int) != 0)
 | .byt y=>y.size≤sizeLine∧k=((y.size:Int) != 0)
 | .ref p=>(∃xs,SqL K H p xs∧k= !xs.isEmpty)∨(∃xs,SqT K H p xs∧k= !xs.isEmpty)∨∃kvs,H p=some (.dK kvs)∧k= !kvs.isEmpty
 |_=>False
theorem cb_8{κ:Type}{kvs:List (κ×V)}{vs:List (κ×Value)}(r:KV kvs vs):(!vs.isEmpty)= !kvs.isEmpty:=by
 cases r <;> rfl
theorem aw_9{xs:List V}{its:List Value}(r:Vals xs its):(!its.toArray.isEmpty)= !xs.isEmpty:=by
 cases r <;> simp
theorem ah_3:(sizeLine:Nat) < 2 ^ 63:=by rw [sizeLine_eq];decide
theorem dq_6:TruR X (fun x H Q=>∃k,TruV X.K x H k∧Q k H):=by
 intro zc s σ H x v Q I rx h;obtain⟨k,e,q⟩:=h;have hl:=ah_3;have hs:sizeLine=16777216:=sizeLine_eq;cases x with
 |non=>
  cases rx;have e':k=false:=e;subst e';exact truthy_none ⟨H,I,q⟩
 |bl b=>
  cases rx;have e':k=b:=e;subst e';exact wpAny_truthy_bool ⟨H,I,q⟩
 |int i=>
  obtain⟨t,rfl⟩:=rx;have e':k=(i != 0):=e;subst e';exact PySem.P.truthy_int ⟨H,I,q⟩
 |str y=>
  obtain⟨t,rfl⟩:=rx;obtain⟨hy,e'⟩:y.length≤sizeLine∧k=((y.length:Int) != 0):=e;subst e';exact PySem.P.truthy_str (by omega) ⟨H,I.tok _,q⟩
 |byt y=>
  obtain⟨t,rfl⟩:=rx;obtain⟨hy,e'⟩:y.size≤sizeLine∧k=((y.size:Int) != 0):=e;subst e';exact truthy_bytes (by omega) ⟨H,I.tok _,q⟩
 |ref p=>
  cases rx;have e':(∃xs,SqL X.K H p xs∧k= !xs.isEmpty)∨(∃xs,SqT X.K H p xs∧k= !xs.isEmpty)∨∃kvs,H p=some (.dK kvs)∧k= !kvs.isEmpty:=e;rcases e' with⟨xs,hx,e'⟩|⟨xs,hx,e'⟩|⟨kvs,hx,e'⟩
  ·subst e';obtain⟨its,r,pl,hz⟩:=I.list hx;have zj:=r.length;exact wpAny_truthy_list pl.isList (by simp only [List.size_toArray];omega) ⟨H,I.tok _,by rw [aw_9 r];exact q⟩
  ·subst e';obtain⟨its,r,pl,hz⟩:=I.tuple hx;have zj:=r.length;exact truthy_tuple pl (by simp only [List.size_toArray];omega) ⟨H,I.tok _,by rw [aw_9 r];exact q⟩
  ·subst e';obtain⟨hz,hS,vs,r,m⟩:kvs.length≤sizeLine∧(p ==sysModules)=false∧∃vs,KV kvs vs∧s.heap.DictOf (g_5 X.prog X.w) p vs:=I.hok p _ hx;have zj:kvs.length=vs.length:=Paired.length r;exact wpAny_truthy_dict hS m (by omega) ⟨H,I.tok _,by rw [cb_8 r];exact q⟩
 |_=>exact(show False from e).elim
theorem ct_7(ha:PE X a ta)(he:∀whole,isTrue a X.env whole=(do let v←whole;standAt a.pos;holding [v] (truthy v))):
  PT X a (fun σ H Q=>ta σ H fun x H'=>∃k,TruV X.K x H' k∧Q k H'):=by
 intro zc s σ H Q I h;exact isTrue_plain (thn (ha zc s σ H _ I h) fun v s1 ⟨x,H1,I1,r1,q1⟩=>dq_6 zc s1 σ H1 x v Q I1 r1 q1) (he _)
theorem cb_9:OpR X (binaryOp .Add) (fun x y H Q=>∃i j,x= .str i∧y= .str j∧i.length + j.length≤sizeLine∧Q (.str (i ++ j)) H):=by
 intro zc s σ H x y v u Q I rx ry h;obtain⟨i,j,rfl,rfl,hz,q⟩:=h;obtain⟨t,rfl⟩:=rx;obtain⟨t',rfl⟩:=ry;exact add_str (fun t' tk=>⟨.str (i ++ j),H,I.tok _,⟨_,rfl⟩,q⟩) hz
theorem bt_1{x:V}{us:List Value}(r:Vals [x] us):∃u,us= [u]∧RelV x u:=by
 cases r with
 |cons r1 r2=>cases r2;exact⟨_,rfl,r1⟩
theorem dm_8{x y:V}{us:List Value}(r:Vals [x,y] us):∃u w',us= [u,w']∧RelV x u∧RelV y w':=by
 cases r with
 |cons r1 r2=>
  cases r2 with
  |cons r3 r4=>cases r4;exact⟨_,_,rfl,r1,r3⟩
theorem cm_8(hc:X.calm=true):ab_2 X (.builtin "max") (fun xs H Q=>∃i j,xs= [.int i, .int j]∧Q (.int (if j > i then j else i)) H):=by
 intro zc s σ H xs us Q I r h;obtain⟨i,j,rfl,q⟩:=h;obtain⟨u,w',rfl,⟨t,rfl⟩,⟨t',rfl⟩⟩:=dm_8 r;refine max_two_ints (I.ok.hd hc) fun h' tk k=>⟨_,H,I.kept k, ?_,q⟩
 by_cases hj:j > i
 ·rw [if_pos hj,if_pos hj];exact⟨_,rfl⟩
 ·rw [if_neg hj,if_neg hj];exact⟨_,rfl⟩
theorem cm_9(hc:X.calm=true):ab_2 X (.builtin "min") (fun xs H Q=>∃i j,xs= [.int i, .int j]∧Q (.int (if j < i then j else i)) H):=by
 intro zc s σ H xs us Q I r h;obtain⟨i,j,rfl,q⟩:=h;obtain⟨u,w',rfl,⟨t,rfl⟩,⟨t',rfl⟩⟩:=dm_8 r;refine min_two_ints (I.ok.hd hc) fun h' tk k=>⟨_,H,I.kept k, ?_,q⟩
 by_cases hj:j < i
 ·rw [if_pos hj,if_pos hj];exact⟨_,rfl⟩
 ·rw [if_neg hj,if_neg hj];exact⟨_,rfl⟩
theorem bk_3:ab_2 X (.type "str") (fun xs H Q=>∃i,xs= [.int i]∧i.natAbs.log2 < 1920∧Q (.str (toString i)) H):=by
 intro zc s σ H xs us Q I r h;obtain⟨i,rfl,hz,q⟩:=h;obtain⟨u,rfl,t,rfl⟩:=bt_1 r;exact PySem.P.str_of_int hz ⟨.str _,H,I.tok _,⟨_,rfl⟩,q⟩
end
structure ObjM(h:Heap)(x dx C:Addr)(mA:Str→Option Value):Prop where
 obj:h.get? x=some (instObj C dx)
 ns:h.Ns1 dx mA
 ne:dx≠x
theorem cn_0{h:Heap}{dx:Addr}{mA:Str→Option Value}(n:h.Ns1 dx mA):∃od,h.get? dx=some od∧∀name,lookIn name od=some (mA name):=by
 obtain⟨o,es,ep,ho,hd,hk,_,hm⟩:=n;refine⟨o,ho,fun name=> ?_⟩;have e:=hm name;unfold nsFind findBy at e;rw [←Array.find?_toList] at e;unfold lookIn;rw [hd];dsimp only
 split
 ·rename_i y q;rw [q] at e;exact congrArg some e
 ·rename_i q;rw [q] at e;have a:es.toList.any (·.refKey)=false:=by
   rw [List.any_eq_false];intro y hy;obtain⟨z,t,dq⟩:=hk y (Array.mem_toList_iff.mp hy);simp [DictEntry.refKey,dq]
  have a':¬es.toList.any (·.refKey)=true:=by rw [a];exact Bool.false_ne_true
  rw [if_neg a'];exact congrArg some e
theorem ObjM.look{h:Heap}{x dx C:Addr}{mA:Str→Option Value}(I:ObjM h x dx C mA):∃od,InstAt h x (instObj C dx) C (some od)∧∀name,lookIn name od=some (mA name):=
 let⟨od,ho,hl⟩:=cn_0 I.ns
 ⟨od,⟨I.obj,rfl,rfl,ho⟩,hl⟩
section
variable{prog:Program}{w:World}{A:Around}{E:Value→Shared→Prop}{s:Shared}{K:Frag}{x dx C f:Addr}{mA:Str→Option Value}{name:Str}{v:Value}
theorem df_3{expr:Bool}{Q:Value→Shared→Prop}(X:K.In s.heap)(I:ObjM s.heap x dx C mA)(hg:plainGet K C name=true)(hh:hasDictIn K C=true)
  (ha:findIn K (.ref C) name=some none) (hv:mA name=some v) (hv':handedIn v=true) (h:Q v {s with toks:=s.toks + 1}):
  wpAny (model prog w) A (getAttr (.ref x) name expr) Q E s:=by
 obtain⟨od,J,hl⟩:=I.look;exact get_value X J (plainGet_of hg).1 (findObj_own hh ha rfl (by rw [hl,hv])) hv' h
theorem ct_8{pl:Sem Bool}{Q:Value×List Value→Shared→Prop}(X:K.In s.heap)(I:ObjM s.heap x dx C mA)(hg:plainGet K C name=true)
  (hf:findIn K (.ref C) name=some (some (.ref f))) (ht:isFn K (.ref f)=true) (hv:mA name=none) (h:Q (.ref f, [.ref x]) s):
  wpAny (model prog w) A (getMethod (.ref x) name pl) Q E s:=by
 obtain⟨od,J,hl⟩:=I.look;exact method_fn X J (plainGet_of hg).1 (plainGet_of hg).2 hf (beq_iff_eq.mp ht) (by show(lookIn name od).map (·.isSome)=some false;rw [hl,hv];rfl) h
theorem df_4{ns:List Str}{Q:Unit→Shared→Prop}(X:K.In s.heap)(I:ObjM s.heap x dx C mA)
  (hs:findIn K (.ref C) "__setattr__" =some (some (.builtin "object.__setattr__"))) (hp:plainOver K C=true) (ht:takerIn K C name=some none) (hh:hasDictIn K C=true)
  (hw:PySem.Within mA ns) (hsz:ns.length≤sizeLine)
  (h:∀h',ObjM h' x dx C (fun y=>if y=name then some v else mA y)→Heap.SameBut dx s.heap h'→Q () {s with heap:=h',toks:=s.toks + 2}):
  wpAny (model prog w) A (setAttr (.ref x) name v) Q E s:=by
 obtain⟨od,J,hl⟩:=I.look;refine set_plain X J hs (osa_open (s:={s with toks:=s.toks + 1}) (r:=none) X J hp ht fun b=> ?_);obtain⟨cd,hc,hd'⟩:=any_some hh;have hx:s.heap.get? x=some ⟨.ref C,some dx, .plain, #[]⟩:=I.obj;refine wpAny_bind (wpAny_pure (wpAny_bind (wpAny_bind (wpAny_loadPart hx (wpAny_bind (Looks.here (s:={s with toks:=s.toks + 1}) (looks_clsIn X hc) ?_))))));rw [hd'];refine wpAny_pure (a:=some dx) (wpAny_bind (wpAny_pure (wpAny_bind ?_)));refine wpAny_nsSet1 (s:={s with toks:=s.toks + 1}) I.ns fun h' hn2 hs2=> ?_;obtain⟨oD,esD,epD,hoD,hdD,hcD⟩:=hn2.count (PySem.Within.cons name v hw);refine wpAny_bind (wpAny_lookBehind hoD (by rw [hdD];exact pastItsLine_dict (Nat.le_trans hcD (by rw [List.length_cons];omega))) ?_);exact wpAny_pure (h _ ⟨(hs2.2 _ (Ne.symm I.ne)).trans I.obj,hn2,I.ne⟩ hs2)
theorem ct_9{R:Result→Shared→Prop}{vs:List Value}{kw:List (Str×Value)}(X:K.In s.heap)(hm:makesIn K C=true)
  (hi:findIn K (.ref C) "__init__" =some (some (.ref f))) (hf:typeIn K (.ref f)=some (.type "function"))
  (h:codeAny (model prog w) (A.under (.builtin "type.__call__" ⟨.ref C::vs,kw⟩)) (.call (.ref f) ⟨.ref (s.heap.objs.size + 1)::vs,kw⟩) (InitBack (s.heap.objs.size + 1) R)
   {s with heap:=(s.heap.push emptyDict).push (instObj C s.heap.objs.size)}):
  codeAny (model prog w) A (.call (.ref C) ⟨vs,kw⟩) R s:=by
 obtain⟨hh,g,d,t,os⟩:=s;exact make_core (makes_of X hm) (looks_findIn X hi) (fun self=>bind_fn X self hf) (.inl rfl) h
end
def z_9(f:Str)(v:V):List (Str×V)→List (Str×V)
 | []=> [(f,v)]
 |(g,x)::r=>if g=f then(g,v)::r else(g,x)::z_9 f v r
theorem aq_7(f g:Str)(v:V):∀fs:List (Str×V),(z_9 f v fs).lookup g=if g=f then some v else fs.lookup g
 | []=>by
  show List.lookup g [(f,v)]=_
  by_cases h:g=f
  ·have hb:(g ==f)=true:=beq_iff_eq.mpr h;simp only [List.lookup,hb,if_pos h]
  ·have hb:(g ==f)=false:=beq_eq_false_iff_ne.mpr h;simp only [List.lookup,hb,if_neg h]
 |(k,x)::r=>by
  have ih:=aq_7 f g v r;rw [show z_9 f v ((k,x)::r)=(if k=f then(k,v)::r else(k,x)::z_9 f v r) from rfl]
  by_cases hk:k=f
  ·rw [if_pos hk]
   by_cases h:g=k
   ·have hb:(g ==k)=true:=beq_iff_eq.mpr h;simp only [List.lookup,hb,if_pos (h.trans hk)]
   ·have hb:(g ==k)=false:=beq_eq_false_iff_ne.mpr h;simp only [List.lookup,hb,if_neg (fun e:g=f=>h (e.trans hk.symm))]
  ·rw [if_neg hk]
   by_cases h:g=k
   ·have hb:(g ==k)=true:=beq_iff_eq.mpr h;simp only [List.lookup,hb,if_neg (fun e:g=f=>hk (h.symm.trans e))]
   ·have hb:(g ==k)=false:=beq_eq_false_iff_ne.mpr h;simp only [List.lookup,hb];exact ih
theorem an_8(f:Str)(v:V):∀fs:List (Str×V),f∈(z_9 f v fs).map (·.1)∧∀g,g∈fs.map (·.1)→g∈(z_9 f v fs).map (·.1)
 | []=>⟨by simp [z_9],fun g h=>by simp at h⟩
 |(k,x)::r=>by
  obtain⟨i1,i2⟩:=an_8 f v r;rw [show z_9 f v ((k,x)::r)=(if k=f then(k,v)::r else(k,x)::z_9 f v r) from rfl]
  by_cases hk:k=f
  ·rw [if_pos hk];subst hk;exact⟨by simp,fun g h=>by simpa using h⟩
  ·rw [if_neg hk];refine⟨?_,fun g h=> ?_⟩
   ·rw [List.map_cons];exact List.mem_cons_of_mem _ i1
   ·rw [List.map_cons] at h⊢;rcases List.mem_cons.mp h with e|e
    ·exact List.mem_cons.mpr (.inl e)
    ·exact List.mem_cons_of_mem _ (i2 g e)
theorem aq_8(f:Str)(v:V):∀fs:List (Str×V),(z_9 f v fs).length≤fs.length + 1
 | []=>by simp [z_9]
 |(k,x)::r=>by
  have ih:=aq_8 f v r;rw [show z_9 f v ((k,x)::r)=(if k=f then(k,v)::r else(k,x)::z_9 f v r) from rfl]
  by_cases hk:k=f
  ·rw [if_pos hk,List.length_cons,List.length_cons];omega
  ·rw [if_neg hk,List.length_cons,List.length_cons];omega
theorem RelO.some_of{v:V}{o:Option Value}(r:RelO (some v) o):∃u,o=some u∧RelV v u:=by
 cases o with
 |none=>exact(show False from r).elim
 |some u=>exact⟨u,rfl,r⟩
theorem RelO.none_of{o:Option Value}(r:RelO none o):o=none:=by
 cases o with
 |none=>rfl
 |some u=>exact(show False from r).elim
theorem cn_1{v:V}{u:Value}(r:RelV v u):handedIn u=true:=by
 cases v with
 |non=>cases(show u=Value.none from r);rfl
 |bl b=>cases(show u=Value.bool b from r);rfl
 |int i=>obtain⟨t,e⟩:=(show∃t,u=Value.int i t from r);cases e;rfl
 |str x=>obtain⟨t,e⟩:=(show∃t,u=Value.str x t from r);cases e;rfl
 |byt b=>obtain⟨t,e⟩:=(show∃t,u=Value.bytes b t from r);cases e;rfl
 |flt b=>obtain⟨t,e⟩:=(show∃t,u=Value.float b t from r);cases e;rfl
 |ref a=>cases(show u=Value.ref a from r);rfl
 |ty n=>cases(show u=Value.type n from r);rfl
section
variable{P:Program}{w:World}{H H':Hp}{h h':Heap}{a C dx:Addr}{fs fs':List (Str×V)}
theorem bk_4(hok:HOk P w H h)(e:H a=some (.ins C dx fs)):∃mA,ObjM h a dx C mA∧(∀f,RelO (fs.lookup f) (mA f))∧PySem.Within mA (fs.map (·.1))∧fs.length≤1000∧H dx=some (.own a):=by
 obtain⟨d,z,ne,ob,mA,n,r,q⟩:=(show ObjOk P w H h a (.ins C dx fs) from hok a _ e);exact⟨mA,⟨ob,n,ne⟩,r,q,z,d⟩
end
structure Cls(K:Frag)(C:Addr):Prop where
 pg:plainGet K C Str.empty=true
 hd:hasDictIn K C=true
 po:plainOver K C=true
 sa:findIn K (.ref C) "__setattr__" =some (some (.builtin "object.__setattr__"))
theorem Cls.get{K:Frag}{C:Addr}(c:Cls K C)(f:Str):plainGet K C f=true:=c.pg
def NoAttr(K:Frag)(C:Addr)(f:Str):Prop:=findIn K (.ref C) f=some none
theorem NoAttr.taker{K:Frag}{C:Addr}{f:Str}(n:NoAttr K C f):takerIn K C f=some none:=by
 unfold takerIn;rw [show findIn K (.ref C) f=some none from n];rfl
structure Con(K:Frag)(C:Addr)(f:Str)(v:V)(u:Value):Prop where
 at_:findIn K (.ref C) f=some (some u)
 rel:RelV v u
 get:specialIn K u "__get__" =some none
 cp:PySem.W.copiedNames.contains f=false
structure Meth(K:Frag)(C:Addr)(m:Str)(f:Addr):Prop where
 at_:findIn K (.ref C) m=some (some (.ref f))
 fn:isFn K (.ref f)=true
 kp:keepIn K (.ref f)=true
section
variable{X:Cx}{zc:List (Addr×Obj)}{σ:St}{H:Hp}{s:Shared}{a C dx:Addr}{fs:List (Str×V)}{f:Str}{v:V}{A:Around}{E:Value→Shared→Prop}
theorem cc_0{b:Bool}{Q:Value→Shared→Prop}(I:Inv X zc σ H s)(e:H a=some (.ins C dx fs))(c:Cls X.K C)(n:NoAttr X.K C f)(l:fs.lookup f=some v)
  (h:∀u s',Inv X zc σ H s'→RelV v u→Q u s'):wpAny (model X.prog X.w) A (getAttr (.ref a) f b) Q E s:=by
 obtain⟨mA,O,r,_,_,_⟩:=bk_4 I.hok e;obtain⟨u,hu,ru⟩:=RelO.some_of (v:=v) (o:=mA f) (by rw [←l];exact r f);exact df_3 I.kIn O (c.get f) c.hd n hu (cn_1 ru) (h u _ (I.tok _) ru)
theorem ax_0{m:Str}{g:Addr}{pl:Sem Bool}{Q:Value×List Value→Shared→Prop}(I:Inv X zc σ H s)(e:H a=some (.ins C dx fs))(c:Cls X.K C)(k:Meth X.K C m g)(l:fs.lookup m=none)
  (h:Q (.ref g, [.ref a]) s):wpAny (model X.prog X.w) A (getMethod (.ref a) m pl) Q E s:=by
 obtain⟨mA,O,r,_,_,_⟩:=bk_4 I.hok e;have hn:mA m=none:=RelO.none_of (by rw [←l];exact r m);exact ct_8 I.kIn O (c.get m) k.at_ k.fn hn h
theorem cc_1{y:V}{u:Value}{Q:Unit→Shared→Prop}(I:Inv X zc σ H s)(e:H a=some (.ins C dx fs))(c:Cls X.K C)(n:NoAttr X.K C f)(hl:fs.length < 1000)(ry:RelV y u)
  (h:∀s',Inv X zc σ (upd H a (.ins C dx (z_9 f y fs))) s'→Q () s'):wpAny (model X.prog X.w) A (setAttr (.ref a) f u) Q E s:=by
 obtain⟨mA,O,r,wi,_,ho⟩:=bk_4 I.hok e;have hz:(fs.map (·.1)).length≤sizeLine:=by rw [List.length_map,sizeLine_eq];omega
 refine df_4 I.kIn O c.sa c.po n.taker c.hd wi hz fun h' O' sb=>h _ ?_;have hd:∃o,h'.get? dx=some o:=let⟨o,_,_,e',_⟩:=O'.ns;⟨o,e'⟩;refine I.write (x:=a) (e:=dx) (by rw [e];exact True.intro) (.inr ho) (fun b q hb z=>(sb.2 b hb).trans z) hd ?_;refine⟨by rw [b_0 O.ne];exact ho, ?_,O.ne,O'.obj,_,O'.ns,fun g=> ?_,fun g hg=> ?_⟩
 ·have:=aq_8 f y fs;omega
 ·show RelO ((z_9 f y fs).lookup g) (if g=f then some u else mA g);rw [aq_7]
  by_cases q:g=f
  ·rw [if_pos q,if_pos q];exact ry
  ·rw [if_neg q,if_neg q];exact r g
 ·by_cases q:g=f
  ·rw [q];exact(an_8 f y fs).1
  ·refine(an_8 f y fs).2 g (wi g fun z=>hg ?_);show(if g=f then some u else mA g)=none;rw [if_neg q];exact z
theorem Inv.made(I:Inv X zc σ H s):Inv X zc σ (upd (upd H s.heap.objs.size (.own (s.heap.objs.size + 1))) (s.heap.objs.size + 1) (.ins C s.heap.objs.size []))
  {s with heap:=(s.heap.push emptyDict).push (instObj C s.heap.objs.size)}:=by
 have e1:(s.heap.push emptyDict).get? s.heap.objs.size=some emptyDict:=Heap.get?_push_size s.heap rfl;have e2:((s.heap.push emptyDict).push (instObj C s.heap.objs.size)).get? (s.heap.objs.size + 1)=some (instObj C s.heap.objs.size):=by
  have:=Heap.get?_push_size (s.heap.push emptyDict) (o:=instObj C s.heap.objs.size) rfl
  rwa [Heap.size_push] at this
 have e3:(s.heap.push emptyDict).Ns s.heap.objs.size (fun _=>none):=⟨emptyDict, #[],_,e1,rfl,(fun e he=>absurd he (by simp)),fun _=>rfl⟩;have I1:=I.laid (a:=s.heap.objs.size) (o:= .own (s.heap.objs.size + 1)) (h':=s.heap.push emptyDict) (t':=s.toks) (fun b u q=>Heap.get?_push_of_some _ q) (Nat.le_refl _) ⟨_,e1⟩;refine I1.laid (a:=s.heap.objs.size + 1) (o:= .ins C s.heap.objs.size []) (t':=s.toks) (fun b u q=>Heap.get?_push_of_some _ q) (Nat.le_of_eq (Heap.size_push _ _)) ?_;have ne:s.heap.objs.size≠s.heap.objs.size + 1:=Nat.ne_of_lt (Nat.lt_succ_self _);refine⟨by rw [b_0 ne,b_3],Nat.zero_le _,ne,e2,fun _=>none,(Heap.Ns1.of_empty e3).at fun o q=>Heap.get?_push_of_some _ q,fun _=>True.intro,fun y hy=>absurd rfl hy⟩
theorem df_5{prog:Program}{w:World}{env:Env}{e:Expr}{f:Str}{pos:Pos}{s:Shared}{Q:Value→Shared→Prop}(hb:attributeBase e f env (eval e env)=eval e env)
  (h:wpAny (model prog w) A (eval e env) (fun o s₁=>wpAny (model prog w) A (getAttr o f true) Q E s₁) E s):wpAny (model prog w) A (eval (.Attribute e f pos) env) Q E s:=
 Attribute_any_ h (by rw [arm_eval_Attribute,hb])
end
def tFld(K:Frag)(ta:TE)(f:Str):TE:=fun σ H Q=>ta σ H fun x H1=>∃a C dx fs v,x= .ref a∧H1 a=some (.ins C dx fs)∧Cls K C∧NoAttr K C f∧fs.lookup f=some v∧Q v H1
def sFld(K:Frag)(ta tv:TE)(f:Str):TS:=fun D σ H=>tv σ H fun y H1=>ta σ H1 fun x H2=>∃a C dx fs,x= .ref a∧H2 a=some (.ins C dx fs)∧Cls K C∧NoAttr K C f∧fs.length < 1000∧
 D.nx σ (upd H2 a (.ins C dx (z_9 f y fs)))
section
variable{X:Cx}{o e value:Expr}{f:Str}{pos pos' zg:Pos}{ta tv:TE}
theorem dq_7(he:PE X e ta)(hb:attributeBase e f X.env (eval e X.env)=eval e X.env):PE X (.Attribute e f pos) (tFld X.K ta f):=by
 intro zc s σ H Q I h;refine df_5 hb (thn (he zc s σ H _ I h) fun u s1 ⟨x,H1,I1,rx,a,C,dx,fs,v,ex,ea,c,n,l,q⟩=> ?_);subst ex;obtain rfl:u=Value.ref a:=rx;exact cc_0 I1 ea c n l fun u' s2 I2 ru=>⟨v,H1,I2,ru,q⟩
theorem dq_8(ha:PE X o ta)(hv:PE X value tv)(hs:swapsWith value (some (.Attribute o f pos')) pos.line X.env=pure false):PS X (.Assign [.Attribute o f pos'] value pos) (sFld X.K ta tv f):=by
 intro zc s σ H D I h;refine plainObj_wpAny_Assign_Attribute (thn (hv zc s σ H _ I h) fun u s1 ⟨y,H1,I1,ry,q⟩=>thn (ha zc s1 σ H1 _ I1 q) fun ov s2 ⟨x,H2,I2,rx,a,C,dx,fs,ex,ea,c,n,l,q2⟩=> ?_) hs;subst ex;obtain rfl:ov=Value.ref a:=rx;exact cc_1 I2 ea c n l ry fun s3 I3=>⟨σ,_,I3,q2⟩
end
section
variable{X:Cx}{zc:List (Addr×Obj)}{σ:St}{H:Hp}{s:Shared}{A:Around}{E:Value→Shared→Prop}{Q:Value→Shared→Prop}{c:Value}{b:Bool}
inductive TyOf(K:Frag)(H:Hp):V→Value→Prop where
 |non:TyOf K H .non (.type "NoneType")
 |bl (x:Bool):TyOf K H (.bl x) (.type "bool")
 |int (i:Int):TyOf K H (.int i) (.type "int")
 |str (x:Str):TyOf K H (.str x) (.type "str")
 |flt (x:UInt64):TyOf K H (.flt x) (.type "float")
 |lst {a:Addr} {xs:List V} (e:H a=some (.lst xs)):TyOf K H (.ref a) (.type "list")
 |frz {a:Addr} {o:Obj} {xs:List V} (e:H a=some (.frz o (.lst xs))):TyOf K H (.ref a) (.type "list")
 |tup {a:Addr} {xs:List V} (e:H a=some (.tup xs)):TyOf K H (.ref a) (.type "tuple")
 |dK {a:Addr} {kvs:List (Key×V)} (e:H a=some (.dK kvs)):TyOf K H (.ref a) (.type "dict")
 |dT {a:Addr} {kvs:List (List Key×V)} (e:H a=some (.dT kvs)):TyOf K H (.ref a) (.type "dict")
 |ins {a C dx:Addr} {fs:List (Str×V)} (e:H a=some (.ins C dx fs)) (cl:Cls K C) (ha:findIn K (.ref C) "__class__" =some (some (.builtin "object.__class__")))
   (hn:specialIn K (.builtin "object.__class__") "__get__" =some (some (.builtin "getset_descriptor.__get__"))) (htk:takesIn K (.builtin "object.__class__")=some true)
   (hm:mroIn K C (.type "object")=some true):TyOf K H (.ref a) (.ref C)
end
structure Room(k:Nat)(A:Around):Prop where
 hd:A.handled=none
 dp:A.depth + 3 * k + 5 < recursionLimit
 un:A.units + 16 * k + 200 < cLine
theorem Room.in1{k:Nat}{A:Around}(r:Room (k + 1) A):Room k A.in1:=
 ⟨r.hd,by have:=r.dp;show A.depth + 3 * k + 5 < _;omega,by have:=r.un;show A.units + 1 + 16 * k + 200 < _;omega⟩
theorem cc_2{A:Around}{C:Addr}{us:List Value}{kw:List (Str×Value)}:(A.under (.builtin "type.__call__" ⟨.ref C::us,kw⟩)).depth=A.depth + 1:=by
 first|rfl|simp [Around.under,Code.weight,Code.isCreation,Code.isGuard,Code.isCaller,Code.frames,Code.isFrame,guardIds]
theorem cc_3{A:Around}{C:Addr}{us:List Value}{kw:List (Str×Value)}:(A.under (.builtin "type.__call__" ⟨.ref C::us,kw⟩)).units=A.units + 1:=by
 first|rfl|simp [Around.under,Code.cUnits,Code.frames,Code.isFrame]
theorem Room.depth{k:Nat}{A:Around}(r:Room k A):A.depth < recursionLimit:=by have:=r.dp;omega
def tNil:TA:=fun _ H Q=>Q [] H
def dx_3(ta:TE)(tr:TA):TA:=fun σ H Q=>ta σ H fun x H1=>tr σ H1 fun xs H2=>Q (x::xs) H2
section
variable{X:Cx}{e:Expr}{es:List Expr}{te:TE}{t:TA}{pos:Pos}
theorem x_6:PA X [] tNil:=fun _ _ _ _ H Q I h=>Calls.spliced_nil ⟨[],H,I, .nil,h⟩
theorem k_6(ha:PE X e te)(hr:PA X es t)(hs:starEach (e::es) X.env=(false,eval e X.env)::starEach es X.env:=by rfl):PA X (e::es) (dx_3 te t):=by
 intro pos zc s σ H Q I h;rw [hs];show wpAny _ _ (spliced ((false,eval e X.env)::backTo pos (starEach es X.env))) _ _ s;refine Calls.spliced_cons (thn (ha zc s σ H _ I h) fun u s1 ⟨x,H1,I1,r1,q1⟩=> ?_);exact thn (hr pos zc s1 σ H1 _ I1 q1) fun us s2 ⟨xs,H2,I2,r2,q2⟩=>⟨x::xs,H2,I2, .cons r1 r2,q2⟩
def tTup(t:TA):TE:=fun σ H Q=>t σ H fun xs H1=>xs.length≤sizeLine∧∀p,H1 p=none→Q (.ref p) (upd H1 p (.tup xs))
def tLst(t:TA):TE:=fun σ H Q=>t σ H fun xs H1=>xs.length≤sizeLine∧∀p,H1 p=none→Q (.ref p) (upd H1 p (.lst xs))
theorem cu_0{x1}(h:PA X es t):PE X (.Tuple es x1 pos) (tTup t):=by
 intro zc s σ H Q I hq;refine wpAny_Tuple_spliced (thn (h pos zc s σ H _ I hq) fun us s1 ⟨xs,H1,I1,r,z,q⟩=>⟨by rw [←r.length];exact z, ?_⟩);have hf:H1 s1.heap.objs.size=none:=I1.hok.fresh (Nat.le_refl _);refine⟨.ref s1.heap.objs.size,upd H1 s1.heap.objs.size (.tup xs),I1.laid (t':=s1.toks) (fun b u e=>Heap.get?_push_of_some _ e) (Nat.le_refl _) ?_,rfl,q _ hf⟩;exact⟨z,us,r,⟨_,Heap.get?_push_size _ rfl,rfl,_,rfl⟩⟩
theorem cu_1(h:PA X es t):PE X (.List es pos) (tLst t):=by
 intro zc s σ H Q I hq;refine wpAny_List_spliced (thn (h pos zc s σ H _ I hq) fun us s1 ⟨xs,H1,I1,r,z,q⟩=>⟨by rw [←r.length];exact z, ?_⟩);have hf:H1 s1.heap.objs.size=none:=I1.hok.fresh (Nat.le_refl _);refine⟨.ref s1.heap.objs.size,upd H1 s1.heap.objs.size (.lst xs),I1.laid (t':=s1.toks) (fun b u e=>Heap.get?_push_of_some _ e) (Nat.le_refl _) ?_,rfl,q _ hf⟩;exact⟨z,us,0,r,Heap.get?_push_size _ rfl⟩
end
abbrev Sp:=List V→Hp→VK→XK→Prop
abbrev CXT:=List Env→Hp→Shared→XK→Value→Shared→Prop
structure Env0(P:Program)(w:World)(K:Frag)(mg:Str→Option Value)(base:Heap)(A:Around)(outer:List Env)(s:Shared)(H:Hp):Prop where
 frames:A.frames=some outer
 mod:Mod K mg base
 bs:∀b o,base.get? b=some o→s.heap.get? b=some o∧H b=none
 bsz:base.objs.size≤s.heap.objs.size
 funs:s.heap.FunFrames base outer
 frf:∀b∈frs outer,H b=none
 hok:HOk P w H s.heap
 bare:AllBare s.gens
def CE(outer:List Env)(P:Program)(w:World)(H:Hp)(s:Shared)(Q:VK)(u:Value)(s':Shared):Prop:=
 ∃v H',s'.os=s.os∧AllBare s'.gens∧Un (frs outer) [] H H' s.heap s'.heap∧HOk P w H' s'.heap∧RelV v u∧Q v H'
def CR(CX:CXT)(outer:List Env)(P:Program)(w:World)(H:Hp)(s:Shared)(Q:VK)(E:XK)(r:Result)(s':Shared):Prop:=
 match r with
 | .ok (.ret u)=>CE outer P w H s Q u s'
 | .ok _=>False
 | .error e=>CX outer H s E e s'
structure FnOk(P:Program)(w:World)(K:Frag)(mg:Str→Option Value)(base:Heap)(CX:CXT)(k:Nat)(f:Addr)(fd:FuncData)(ps:List Str)(sp:Sp):Prop where
 len:∀vs H Q E,sp vs H Q E→vs.length=ps.length
 run:∀(A:Around) (outer:List Env) (s:Shared) (H:Hp) (args:Args) (us:List Value) (vs:List V) (Q:VK) (E:XK),Room k A→Env0 P w K mg base A outer s H→BindsTo s fd args (ps.zip us)→Vals vs us→sp vs H Q E→
  codeAny (model P w) A (.call (.ref f) args) (CR CX outer P w H s Q E) s
theorem Env0.make{P:Program}{w:World}{K:Frag}{mg:Str→Option Value}{base:Heap}{A:Around}{outer:List Env}{s:Shared}{H:Hp}(e:Env0 P w K mg base A outer s H)(C:Addr)(us:List Value)(kw:List (Str×Value)):
  Env0 P w K mg base (A.under (.builtin "type.__call__" ⟨.ref C::us,kw⟩)) outer s H:=⟨by first|exact e.frames|(simpa [Around.under,Code.envs,Code.isFrame,pushEnvs] using e.frames),e.mod,e.bs,e.bsz,e.funs,e.frf,e.hok,e.bare⟩
theorem Env0.in1{P:Program}{w:World}{K:Frag}{mg:Str→Option Value}{base:Heap}{A:Around}{outer:List Env}{s:Shared}{H:Hp}(e:Env0 P w K mg base A outer s H):
  Env0 P w K mg base A.in1 outer s H:=⟨e.frames,e.mod,e.bs,e.bsz,e.funs,e.frf,e.hok,e.bare⟩
section
variable{X:Cx}{zc:List (Addr×Obj)}{σ:St}{H:Hp}{s s':Shared}
theorem Inv.env0(I:Inv X zc σ H s):Env0 X.prog X.w X.K X.mg X.base X.A X.stack s H:=
 ⟨I.ok.frames,I.ok.mod,I.bs,Nat.le_trans I.ok.bsz I.sz,I.stack,I.stkFree,I.hok,I.bare⟩
theorem Inv.after{Q:VK}{u:Value}(I:Inv X zc σ H s)(h:CE X.stack X.prog X.w H s Q u s'):EP X zc σ Q u s':=by
 obtain⟨v,H',os,bare,un,hok,r,q⟩:=h;obtain⟨hh,g,d,t,os'⟩:=s';obtain rfl:os'=s.os:=os;exact⟨v,H',I.call (h':=hh) (g':=g) (d':=d) (t':=t) (ch:= []) un hok bare (fun b z=>absurd z (by simp)),r,q⟩
end
def Binds(K:Frag)(fd:FuncData)(ps:List Str)(ds:List Value):Prop:=
 ∀(s:Shared) (us:List Value),K.In s.heap→(us ++ ds).length=ps.length→BindsTo s fd ⟨us, []⟩ (ps.zip (us ++ ds))
theorem Binds.all{K:Frag}{fd:FuncData}{ps:List Str}(h:∀us:List Value,us.length=ps.length→bindArgs fd ⟨us, []⟩=pure (ps.zip us)):Binds K fd ps []:=fun s us _ hl=>by
 rw [List.append_nil] at hl⊢;exact .of_eq (h us hl)
section
variable{X:Cx}{CX:CXT}{k:Nat}{f C:Addr}{fd:FuncData}{ps:List Str}{sp:Sp}{dvs:List V}{ds:List Value}{E:XK}{x m:Str}{p pos zf:Pos}{e o:Expr}{es:List Expr}{ta:TE}{t:TA}
structure Mk(K:Frag)(C f:Addr):Prop where
 makes:makesIn K C=true
 init:findIn K (.ref C) "__init__" =some (some (.ref f))
 fn:isFn K (.ref f)=true
 kp:keepIn K (.ref C)=true
end
section
variable{X:Cx}{CX:CXT}{k:Nat}{f C:Addr}{fd:FuncData}{ps ks:List Str}{sp:Sp}{E:XK}{x m:Str}{p pos zf gq:Pos}{e o:Expr}{es:List Expr}{kws:List Keyword}{te ta:TE}{t tk:TA}{nm:Option Str}
structure KBinds(K:Frag)(fd:FuncData)(ps ks:List Str)(g:List Value→List Value→List Value)(gV:List V→List V→List V):Prop where
 to:∀(s:Shared) (us ws:List Value),K.In s.heap→(g us ws).length=ps.length→BindsTo s fd ⟨us,ks.zip ws⟩ (ps.zip (g us ws))
 rel:∀{vs:List V} {us:List Value} {zs:List V} {ws:List Value},Vals vs us→Vals zs ws→Vals (gV vs zs) (g us ws)
variable{g:List Value→List Value→List Value}{gV:List V→List V→List V}
end
structure FnScope(N P:List Str)(sc:Scope):Prop where
 kind:sc.kind= .function
 co:sc.isCoroutine=false
 gen:sc.isGenerator=false
 nd:N.Nodup
 pre:N.take P.length=P
 par:∀x∈P,sc.names.lookup x=some .local∨sc.names.lookup x=some .cell
 nofree:∀y∈sc.names,y.2≠ .free
theorem bf_3{kindOf:Str→Option NameKind}{x:Str}:∀{binds:List (Str×Value)} {m:Str→Option Value},(∀v,(x,v)∉binds)→bindL kindOf binds m x=m x
 | [],_,_=>rfl
 |(n,v)::r,m,h=>by
  unfold bindL;rw [bf_3 fun w hw=>h w (List.mem_cons_of_mem _ hw)]
  split
  ·have:x≠n:=by rintro rfl;exact h v List.mem_cons_self
   simp [this]
  ·rfl
theorem bf_4{kindOf:Str→Option NameKind}{x:Str}:∀{binds:List (Str×Value)} {m:Str→Option Value},(∀v,(x,v)∉binds)→bindC kindOf binds m x=m x
 | [],_,_=>rfl
 |(n,v)::r,m,h=>by
  unfold bindC;rw [bf_4 fun w hw=>h w (List.mem_cons_of_mem _ hw)]
  split
  ·rfl
  ·have:x≠n:=by rintro rfl;exact h v List.mem_cons_self
   simp [this]
theorem bf_5{kindOf:Str→Option NameKind}{x:Str}{v:Value}:∀{P:List Str} {vs:List Value} {i:Nat} {m:Str→Option Value},P.Nodup→P[i]? =some x→vs[i]? =some v→kindOf x=some .local→
  bindL kindOf (P.zip vs) m x=some v
 | [],_,_,_,_,h,_,_=>by simp at h
 |_::_, [],_,_,_,_,h,_=>by simp at h
 |p::P,w::vs,0,m,nd,h1,h2,hk=>by
  simp at h1 h2;subst h1;subst h2;show bindL kindOf ((p,w)::P.zip vs) m p=_;unfold bindL;rw [bf_3 fun v hv=>(List.nodup_cons.mp nd).1 (List.of_mem_zip hv).1,if_pos hk];simp
 |p::P,w::vs,i + 1,m,nd,h1,h2,hk=>by
  show bindL kindOf ((p,w)::P.zip vs) m x=_;unfold bindL;exact bf_5 (i:=i) (List.nodup_cons.mp nd).2 (by simpa using h1) (by simpa using h2) hk
theorem bf_6{kindOf:Str→Option NameKind}{x:Str}{v:Value}:∀{P:List Str} {vs:List Value} {i:Nat} {m:Str→Option Value},P.Nodup→P[i]? =some x→vs[i]? =some v→kindOf x≠some .local→
  bindC kindOf (P.zip vs) m x=some v
 | [],_,_,_,_,h,_,_=>by simp at h
 |_::_, [],_,_,_,_,h,_=>by simp at h
 |p::P,w::vs,0,m,nd,h1,h2,hk=>by
  simp at h1 h2;subst h1;subst h2;show bindC kindOf ((p,w)::P.zip vs) m p=_;unfold bindC;rw [bf_4 fun v hv=>(List.nodup_cons.mp nd).1 (List.of_mem_zip hv).1,if_neg hk];simp
 |p::P,w::vs,i + 1,m,nd,h1,h2,hk=>by
  show bindC kindOf ((p,w)::P.zip vs) m x=_;unfold bindC;exact bf_6 (i:=i) (List.nodup_cons.mp nd).2 (by simpa using h1) (by simpa using h2) hk
def o_3(N:List Str)(vs:List V):St:=vs.map some ++ List.replicate (N.length - vs.length) none
def cxOf(CX:CXT)(P:Program)(w:World)(K:Frag)(mg:Str→Option Value)(base:Heap)(N:List Str)(qual:Str)(scope:Scope)(f:Addr)(cd:Value)(A:Around)(outer:List Env)(s:Shared)(H:Hp)(E:XK):Cx where
 prog:=P
 w:=w
 K:=K
 mg:=mg
 base:=base
 A:=A.deeper (envOfC qual scope s.heap.objs.size f cd)
 N:=N
 s₀:=s
 H₀:=H
 env:=envOfC qual scope s.heap.objs.size f cd
 outer:=outer
 stack:=envOfC qual scope s.heap.objs.size f cd::outer
 ex:= []
 calm:=true
 fn:=fun _=>true
 pn:= []
 xe:=fun e s'=>wpAny (model P w) (A.deeper (envOfC qual scope s.heap.objs.size f cd)) (leaving (envOfC qual scope s.heap.objs.size f cd) e) (fun _ s''=>CX outer H s E e s'') (fun e' s''=>CX outer H s E e' s'') s'
theorem bt_2{sc:Scope}{n:Nat}{x:Str}(h:sc.names.lookup x=some .cell):∃c,(cellsFrom n sc.names []).lookup x=some c:=by
 have q:=cellsFrom_some sc.names n [] (.inl h);exact Option.isSome_iff_exists.mp q
theorem cn_2{CX:CXT}{P:Program}{w:World}{K:Frag}{mg:Str→Option Value}{base:Heap}{N ps:List Str}{qual:Str}{scope:Scope}{f:Addr}{cd:Value}{A:Around}{outer:List Env}{s s1:Shared}{H:Hp}{E:XK}{us:List Value}{vs:List V}
  (S:FnScope N ps scope) (hd:A.handled=none) (e0:Env0 P w K mg base A outer s H) (hl:vs.length=ps.length) (r:Vals vs us)
  (x:InCallC s s.heap.objs.size (bindL (envOfC qual scope s.heap.objs.size f cd).kindOf (ps.zip us) fun _=>none) (cellsFrom (s.heap.objs.size + 1) scope.names []) (bindC (envOfC qual scope s.heap.objs.size f cd).kindOf (ps.zip us) fun _=>none) s1):
  Inv (cxOf CX P w K mg base N qual scope f cd A outer s H E) [] (o_3 N vs) H s1:=by
 have hpl:ps.length≤N.length:=by have:=congrArg List.length S.pre;rw [List.length_take] at this;omega
 obtain⟨h1,tk,rfl,hk⟩:=x.done;have noA:∀b:Addr,b∉(cxOf CX P w K mg base N qual scope f cd A outer s H E).ex:=fun b z=>absurd (show b∈([]:List Addr) from z) (by simp);refine⟨⟨e0.mod,S.kind,rfl,rfl,Nat.le_refl _,fun y z c h1 h2=> ?_,fun y hy=> ?_,fun y c _ h=> ?_,fun _=>hd,Around.frames_deeper e0.frames, .inr ⟨rfl,rfl⟩,fun b z=>absurd z (noA b),e0.bs,e0.bsz,fun b _ _=>noA b,fun b z=>absurd z (noA b),e0.funs,e0.frf⟩,
  rfl,e0.bare,Un.kept hk,⟨_,x.toInCall.ns,fun i y v h1 h2 h3=> ?_⟩,fun y c h=>⟨_,x.cell y c h⟩,e0.hok.fresh (Nat.le_refl _),fun y c h=> ?_,fun p hp=>absurd (show p∈([]:List (Addr×Obj)) from hp) (by simp),e0.hok.kept hk, ?_⟩
 ·exact name_of_addr x.apart (PySem.mem_of_lookup h1) (PySem.mem_of_lookup h2)
 ·have hy:scope.names.lookup y=some .cell∨scope.names.lookup y=some .free:=hy;rcases hy with hy|hy
  ·exact bt_2 hy
  ·exact absurd rfl (S.nofree _ (PySem.mem_of_lookup hy))
 ·exact Nat.le_of_lt (x.above y c (PySem.mem_of_lookup h))
 ·have hi:i < vs.length:=by
   unfold o_3 at h2
   by_cases hi:i < vs.length
   ·exact hi
   ·rw [List.getElem?_append_right (by simpa using hi)] at h2;rw [List.getElem?_replicate] at h2
    split at h2 <;> cases h2
  have ha:vs[i]? =some v:=by
   unfold o_3 at h2;rw [List.getElem?_append_left (by simpa using hi),List.getElem?_map] at h2;cases e:vs[i]? with
   |none=>rw [e] at h2;cases h2
   |some a=>rw [e] at h2;cases h2;rfl
  obtain⟨u,hu,rv⟩:=r.get ha;have hp:ps[i]? =some y:=by
   rw [←S.pre,List.getElem?_take_of_lt (by omega)];exact h1
  have ndP:ps.Nodup:=by rw [←S.pre];exact S.nd.sublist (List.take_sublist _ _)
  refine⟨u,rv, ?_⟩;rcases S.par y (List.mem_of_getElem? hp) with k|k
  ·exact .inl ⟨k,bf_5 ndP hp hu k⟩
  ·obtain⟨c,e⟩:=bt_2 (n:=s.heap.objs.size + 1) k;refine .inr ⟨.inl k,c,e, ?_⟩;have q:=x.cell y c e;rw [bf_6 ndP hp hu (by show scope.names.lookup y≠_;rw [k];decide)] at q;exact q
 ·exact e0.hok.fresh (Nat.le_of_lt (x.above y c (PySem.mem_of_lookup h)))
 ·unfold o_3;show _=N.length;rw [List.length_append,List.length_map,List.length_replicate];omega
section
variable{X:Cx}{x:Str}{p pos:Pos}{e:Expr}{es:List Expr}{t:TA}{id T:String}{r:List V→Hp→VK→Prop}
def tCB(r:List V→Hp→VK→Prop)(t:TA):TE:=fun σ H Q=>t σ H fun vs H1=>r vs H1 Q
theorem ax_2(hc:ab_2 X (.builtin id) r)(hg:Gl X x)(hm:X.mg x=none)(hv:bootBuiltins x=some (.builtin id))(ha:PA X (e::es) t)(hn:x≠ "__name__" :=by decide)(hdb:(x ==("__debug__" :Str))=false:=by decide)
  (he:starEach (e::es) X.env=(false,eval e X.env)::starEach es X.env:=by rfl) (hpl:(backTo pos (starEach es X.env)).any (·.1)=false:=by rfl):PE X (.Call (.Name x p) (e::es) [] pos) (tCB r t):=by
 intro zc s σ H Q I h;refine wpAny_Call_Name_kw (z_7 I hg hm hv ?_ hn hdb);exact PyProof.Rows.callWith_builtin1 (thn (ha pos zc s σ H _ I h) fun us s1 ⟨vs,H1,I1,r1,q1⟩=>hc zc s1 σ H1 vs us Q I1 r1 q1) he hpl
theorem cn_3(hc:ab_2 X (.type T) r)(hg:Gl X x)(hm:X.mg x=none)(hv:bootBuiltins x=some (.type T))(ha:PA X (e::es) t)(hn:x≠ "__name__" :=by decide)(hdb:(x ==("__debug__" :Str))=false:=by decide)
  (he:starEach (e::es) X.env=(false,eval e X.env)::starEach es X.env:=by rfl) (hpl:(backTo pos (starEach es X.env)).any (·.1)=false:=by rfl):PE X (.Call (.Name x p) (e::es) [] pos) (tCB r t):=by
 intro zc s σ H Q I h;refine wpAny_Call_Name_kw (z_7 I hg hm hv ?_ hn hdb);exact PyProof.Rows.callWith_type1 (thn (ha pos zc s σ H _ I h) fun us s1 ⟨vs,H1,I1,r1,q1⟩=>hc zc s1 σ H1 vs us Q I1 r1 q1) he hpl
end
end L2
namespace HT
open PySem PyProof.Rows
section
open PySem.SeqAt
open PySem.AutoSeq1 (wpAny_loadPart')
open PySem.MeetsSeq PySem.MeetsSeq2 PySem.MeetsSeq3
end
section
variable{prog:Program}{w:World}{A:Around}{E:Value→Shared→Prop}{s:Shared}
def sIx(n d:Nat):Option Int→Nat
 |none=>d
 |some v=>if v < 0 then(v + (n:Int)).toNat else min v.toNat n
theorem sIx_le(n d:Nat)(hd:d≤n)(o:Option Int):sIx n d o≤n:=by
 cases o with
 |none=>exact hd
 |some v=>
  show(if v < 0 then(v + (n:Int)).toNat else min v.toNat n)≤n
  by_cases hv:v < 0
  ·rw [if_pos hv];omega
  ·rw [if_neg hv];exact Nat.min_le_right _ _
end
end HT
namespace L2
open PySem PySem.Spec PyProof.Rows
abbrev TO:=St→Hp→(Option Int→Hp→Prop)→Prop
def PO(X:Cx)(e:Option Expr)(t:TO):Prop:=
 ∀(zc:List (Addr×Obj)) (s:Shared) (σ:St) (H:Hp) (Q:Option Int→Hp→Prop),Inv X zc σ H s→t σ H Q→
  wpAny (model X.prog X.w) X.A (evalPart e X.env) (fun u s'=>∃o H',Inv X zc σ H' s'∧IsPart u o∧Q o H') X.xe s
def df_6:TO:=fun _ H Q=>Q none H
def dx_4(t:TE):TO:=fun σ H Q=>t σ H fun x H1=>∃i,x= .int i∧Q (some i) H1
section
variable{X:Cx}{e:Expr}{te:TE}{lo hi:Option Expr}{tl th:TO}{pos p2:Pos}
theorem df_7:PO X none df_6:=by
 intro zc s σ H Q I h;rw [evalPart_none];exact wpAny_pure ⟨none,H,I, .none,h⟩
theorem df_8(h:PE X e te):PO X (some e) (dx_4 te):=by
 intro zc s σ H Q I hw;rw [evalPart_some];refine thn (h zc s σ H _ I hw) fun u s1 ⟨x,H1,I1,r1,q1⟩=> ?_;obtain⟨i,rfl,q⟩:=q1;obtain⟨t,rfl⟩:=r1;exact⟨some i,H1,I1, .int i t,q⟩
def SlR(X:Cx)(r:V→Option Int→Option Int→Hp→VK→Prop):Prop:=
 ∀(zc:List (Addr×Obj)) (s:Shared) (σ:St) (H:Hp) (x:V) (v vl vu:Value) (lo hi:Option Int) (sl:Addr) (Q:VK),Inv X zc σ H s→RelV x v→s.heap.IsSliceOf sl vl vu .none→IsPart vl lo→IsPart vu hi→r x lo hi H Q→
  ∃T id,typeLookup (.type T) "__getitem__" =pure (some (.builtin id))∧s.TypeIs v T∧wpAny (model X.prog X.w) X.A (getItem v (.ref sl)) (EP X zc σ Q) X.xe s
def tSl(r:V→Option Int→Option Int→Hp→VK→Prop)(te:TE)(tl th:TO):TE:=fun σ H Q=>te σ H fun x H1=>tl σ H1 fun l H2=>th σ H2 fun u H3=>r x l u H3 Q
theorem cu_2{r:V→Option Int→Option Int→Hp→VK→Prop}(hr:SlR X r)(he:PE X e te)(hl:PO X lo tl)(hu:PO X hi th):PE X (.Subscript e (.Slice lo hi none p2) pos) (tSl r te tl th):=by
 intro zc s σ H Q I h;refine Subscript_ (thn (he zc s σ H _ I h) fun v s1 ⟨x,H1,I1,r1,q1⟩=> ?_);refine wpAny_Slice (thn (hl zc s1 σ H1 _ I1 q1) fun vl s2 ⟨l,H2,I2,pl,q2⟩=>thn (hu zc s2 σ H2 _ I2 q2) fun vu s3 ⟨u,H3,I3,pu,q3⟩=> ?_);rw [evalPart_none];refine wpAny_pure ?_;have I4:Inv X zc σ H3 {s3 with heap:=s3.heap.push {cls:= .type "slice",data:= .fields #[vl,vu, .none]}}:=I3.kept (t':=s3.toks) fun b ob q=>Heap.get?_push_of_some _ q;obtain⟨T,id,hT,ht,hg⟩:=hr zc {s3 with heap:=s3.heap.push {cls:= .type "slice",data:= .fields #[vl,vu, .none]}} σ H3 x v vl vu l u s3.heap.objs.size Q I4 r1 (Heap.IsSliceOf.new ..) pl pu q3;show wpAny (model X.prog X.w) X.A (subscriptTail e (.Slice lo hi none p2) v (.ref s3.heap.objs.size)) (EP X zc σ Q) X.xe {s3 with heap:=s3.heap.push {cls:= .type "slice",data:= .fields #[vl,vu, .none]}};exact tail_any (ops:= [.ref s3.heap.objs.size,v]) ht hT hg (by with_unfolding_all rfl)
def cutV(xs:List V)(lo hi:Option Int):List V:=(xs.drop (HT.sIx xs.length 0 lo)).take (HT.sIx xs.length xs.length hi - HT.sIx xs.length 0 lo)
theorem bt_3(xs:List V)(lo hi:Option Int):(cutV xs lo hi).length≤xs.length:=by
 unfold cutV;rw [List.length_take,List.length_drop];omega
end
def ixN(n:Nat)(i:Int):Option Nat:=if 0≤i then(if i < n then some i.toNat else none) else if -(n:Int)≤i then some (i + n).toNat else none
def atI{α:Type}(xs:List α)(i:Int):Option α:=(ixN xs.length i).bind fun j=>xs[j]?
theorem ch_5{n:Nat}{i:Int}{j:Nat}(h:ixN n i=some j):seqIndex? i n=some j∧j < n∧ -(n:Int)≤i∧i < n:=by
 unfold ixN at h
 by_cases h0:0≤i
 ·rw [if_pos h0] at h
  by_cases h1:i < n
  ·rw [if_pos h1] at h;have e:i.toNat=j:=Option.some.inj h;exact⟨by rw [seqIndex_of h0 h1,e],by omega,by omega,h1⟩
  ·rw [if_neg h1] at h;cases h
 ·rw [if_neg h0] at h
  by_cases h1: -(n:Int)≤i
  ·rw [if_pos h1] at h;have e:(i + n).toNat=j:=Option.some.inj h;exact⟨by rw [seqIndex_neg (by omega) h1,e],by omega,h1,by omega⟩
  ·rw [if_neg h1] at h;cases h
theorem bk_5{α:Type}{xs:List α}{i:Int}{v:α}(h:atI xs i=some v):∃j,seqIndex? i xs.length=some j∧xs[j]? =some v∧j < xs.length∧ -(xs.length:Int)≤i∧i < xs.length:=by
 unfold atI at h;cases e:ixN xs.length i with
 |none=>rw [e] at h;cases h
 |some j=>
  rw [e] at h;obtain⟨h1,h2,h3,h4⟩:=ch_5 e;exact⟨j,h1,h,h2,h3,h4⟩
def ch_6(b:Expr):Prop:=∀o i,subscripted b false o i=operate [o,i] (getItem o i)
def IxR(X:Cx)(r:R2):Prop:=
 ∀(value slice:Expr) (zc:List (Addr×Obj)) (s:Shared) (σ:St) (H:Hp) (x y:V) (v u:Value) (Q:VK),Inv X zc σ H s→RelV x v→RelV y u→r x y H Q→
  subscripted slice false v u=operate [v,u] (getItem v u)→wpAny (model X.prog X.w) X.A (subscriptTail value slice v u) (EP X zc σ Q) X.xe s
def MtR(X:Cx)(id:String)(r:V→List V→Hp→VK→Prop):Prop:=
 ∀(zc:List (Addr×Obj)) (s:Shared) (σ:St) (H:Hp) (x:V) (xs:List V) (v:Value) (us:List Value) (Q:VK),Inv X zc σ H s→RelV x v→Vals xs us→r x xs H Q→
  wpAny (model X.prog X.w) X.A (call (.builtin id) (v::us)) (EP X zc σ Q) X.xe s
section
variable{X:Cx}{a b:Expr}{ta tb:TE}{pos:Pos}
theorem dx_5{r:R2}(hr:IxR X r)(ha:PE X a ta)(hb:PE X b tb)(hs:ch_6 b):PE X (.Subscript a b pos) (tOp r ta tb):=by
 intro zc s σ H Q I h;exact Subscript_ (binT ha hb I h fun v u s2 x y H2 I2 rx ry q=>hr a b zc s2 σ H2 x y v u Q I2 rx ry q (hs _ _))
def rIxL(K:Frag):R2:=fun x y H Q=>∃p xs i v,x= .ref p∧y= .int i∧SqL K H p xs∧atI xs i=some v∧Q v H
def rIxT(K:Frag):R2:=fun x y H Q=>∃p xs i v,x= .ref p∧y= .int i∧SqT K H p xs∧atI xs i=some v∧Q v H
def rIxS:R2:=fun x y H Q=>∃z i c,x= .str z∧y= .int i∧z.length≤sizeLine∧atI z.cps.toList i=some c∧Q (.str ⟨#[c]⟩) H
theorem df_9:IxR X (rIxL X.K):=by
 intro value slice zc s σ H x y v u Q I rx ry h hs;obtain⟨p,xs,i,z,rfl,rfl,hq,he,q⟩:=h;cases rx;obtain⟨t,rfl⟩:=ry;obtain⟨its,r,pl,hz⟩:=I.list hq;obtain⟨j,h1,h2,h3,h4,h5⟩:=bk_5 he;obtain⟨w,ew,rw'⟩:=r.get h2;have hl:=r.length;have hn:=ah_3;have fin:EP X zc σ Q w s:=⟨z,H,I,rw',q⟩
 by_cases h0:0≤i
 ·have hj:i.toNat=j:=by
   rw [seqIndex_of h0 h5] at h1;exact Option.some.inj h1
  exact item_listR pl.isList h0 (by omega) (by rw [hj];simpa using ew) fin hs
 ·have hj:(i + (its.toArray.size:Int)).toNat=j:=by
   rw [seqIndex_neg (by omega) h4] at h1;rw [List.size_toArray,←hl];exact Option.some.inj h1
  exact subscriptTail_builtinR (x:=w) pl.isList.typeIs slot_list_getitem.lookup
   (wpAny_getItem_list_neg (Q:=fun r s'=>r=w∧EP X zc σ Q r s') pl.isList (by omega) (by rw [List.size_toArray] <;> omega) (by omega) (by rw [hj];simpa using ew) ⟨rfl,fin⟩) hs
theorem dq_9:IxR X (rIxT X.K):=by
 intro value slice zc s σ H x y v u Q I rx ry h hs;obtain⟨p,xs,i,z,rfl,rfl,hq,he,q⟩:=h;cases rx;obtain⟨t,rfl⟩:=ry;obtain⟨its,r,pl,hz⟩:=I.tuple hq;obtain⟨j,h1,h2,h3,h4,h5⟩:=bk_5 he;obtain⟨w,ew,rw'⟩:=r.get h2;have hl:=r.length;have hn:=ah_3;have fin:EP X zc σ Q w s:=⟨z,H,I,rw',q⟩;exact subscriptTail_builtinR (x:=w) pl.typeIs slot_tuple_getitem.lookup
  (getItem_tuple (j:=j) (Q:=fun r s'=>r=w∧EP X zc σ Q r s') pl (by omega) (by omega) (by rw [List.size_toArray,←hl];exact h1) (by simpa using ew) ⟨rfl,fin⟩) hs
theorem dr_0:IxR X rIxS:=by
 intro value slice zc s σ H x y v u Q I rx ry h hs;obtain⟨z,i,c,rfl,rfl,hz,he,q⟩:=h;obtain⟨t,rfl⟩:=rx;obtain⟨t',rfl⟩:=ry;obtain⟨j,h1,h2,h3,h4,h5⟩:=bk_5 he;have hl:z.cps.toList.length=z.length:=by simp [Str.length]
 rw [hl] at h1 h4 h5;have hn:=ah_3;exact tail_any (typeIs_str s z t) slot_str_getitem.lookup (getItem_str (c:=c) (by
  have e1:decide (i < -(2 ^ 63:Int))=false:=decide_eq_false (by omega);have e2:decide (i≥2 ^ 63)=false:=decide_eq_false (by omega);rw [e1,e2,Bool.or_false]) (by rw [h1];simpa using h2) ⟨.str ⟨#[c]⟩,H,I.tok _,⟨_,rfl⟩,q⟩) hs
theorem cc_4(its:List Value)(n j:Nat)(u:Value):Obj.mapSeq (·.setIfInBounds j u) {cls:= .type "list",data:= .seq its.toArray n}={cls:= .type "list",data:= .seq (its.set j u).toArray n}:=by
 simp [Obj.mapSeq]
theorem Inv.lst{zc:List (Addr×Obj)}{σ:St}{H:Hp}{s:Shared}{p:Addr}{xs:List V}(I:Inv X zc σ H s)(h:H p=some (.lst xs)):
  ∃(its:List Value) (n:Nat),Vals xs its∧s.heap.get? p=some {cls:= .type "list",data:= .seq its.toArray n}∧xs.length≤sizeLine:=by
 obtain⟨z,its,n,r,e⟩:=I.hok p _ h;exact⟨its,n,r,e,z⟩
theorem Inv.lstUpd{zc:List (Addr×Obj)}{σ:St}{H:Hp}{s:Shared}{p:Addr}{xs ys:List V}{its its':List Value}{n n':Nat}{f:Obj→Obj}(I:Inv X zc σ H s)(h:H p=some (.lst xs))
  (ho:s.heap.get? p=some {cls:= .type "list",data:= .seq its.toArray n}) (hf:f {cls:= .type "list",data:= .seq its.toArray n}={cls:= .type "list",data:= .seq its'.toArray n'}) (r:Vals ys its') (hz:ys.length≤sizeLine) (t:Nat):
  Inv X zc σ (upd H p (.lst ys)) {s with heap:=s.heap.update p f,toks:=t}:=by
 have e:(s.heap.update p f).get? p=some {cls:= .type "list",data:= .seq its'.toArray n'}:=by
  rw [Heap.get?_update_self f ho (by rw [hf] <;> rfl),hf]
 refine I.write (x:=p) (e:=p) (by rw [h];trivial) (.inl rfl) (fun b u hb q=>(Heap.get?_update_other _ _ (Ne.symm hb)).trans q) ⟨_,e⟩ ?_;exact⟨hz,its',n',r,e⟩
def dx_6:V→V→V→Hp→(Hp→Prop)→Prop:=fun o i v H Q=>∃p xs k j,o= .ref p∧i= .int k∧H p=some (.lst xs)∧ixN xs.length k=some j∧Q (upd H p (.lst (xs.set j v)))
theorem bt_4:PSet X dx_6:=by
 intro zc s σ H o i v ov iv u Q I ro ri rv h;obtain⟨p,xs,k,j,rfl,rfl,hp,hj,q⟩:=h;cases ro;obtain⟨t,rfl⟩:=ri;obtain⟨its,n,r,ho,hz⟩:=I.lst hp;obtain⟨h1,h2,h3,h4⟩:=ch_5 hj;have hl:=r.length;have hn:=ah_3;have I':Inv X zc σ (upd H p (.lst (xs.set j v))) {s with heap:=s.heap.update p (Obj.mapSeq (·.setIfInBounds j u))}:=
  I.lstUpd hp ho (cc_4 its n j u) (r.set rv j) (by rw [List.length_set];exact hz) s.toks
 by_cases h0:0≤k
 ·have hk:k.toNat=j:=by
   rw [seqIndex_of h0 h4] at h1;exact Option.some.inj h1
  exact ki_setAt ho h0 (by omega) (by rw [List.size_toArray,←hl];exact h4) (by rw [hk];exact⟨_,I',q⟩)
 ·have hk:(k + (its.toArray.size:Int)).toNat=j:=by
   rw [seqIndex_neg (by omega) h3] at h1;rw [List.size_toArray,←hl];exact Option.some.inj h1
  exact ki_setBack ho (by omega) (by rw [List.size_toArray,←hl];exact h3) (by omega) (by rw [hk];exact⟨_,I',q⟩)
theorem bk_6(lo hi:Option Int)(n:Nat):(sliceBounds lo hi none n).1=((HT.sIx n 0 lo:Nat):Int)∧(sliceBounds lo hi none n).2.1=((HT.sIx n n hi:Nat):Int)∧(sliceBounds lo hi none n).2.2=1:=by
 refine⟨?_, ?_,rfl⟩
 ·cases lo with
  |none=>simp [sliceBounds,HT.sIx]
  |some i=>
   simp only [sliceBounds,HT.sIx,Option.getD_none,show(1:Int) > 0 by decide,if_true]
   by_cases h:i < 0
   ·simp only [h,if_true] <;> omega
   ·simp only [h,if_false] <;> omega
 ·cases hi with
  |none=>simp [sliceBounds,HT.sIx]
  |some i=>
   simp only [sliceBounds,HT.sIx,Option.getD_none,show(1:Int) > 0 by decide,if_true]
   by_cases h:i < 0
   ·simp only [h,if_true] <;> omega
   ·simp only [h,if_false] <;> omega
theorem bc_7(its:List Value)(lo hi:Option Int):slicePick its.toArray lo hi none=((its.drop (HT.sIx its.length 0 lo)).take (HT.sIx its.length its.length hi - HT.sIx its.length 0 lo)).toArray:=by
 obtain⟨h1,h2,h3⟩:=bk_6 lo hi its.toArray.size;unfold slicePick;rw [h1,h2,h3];simp only [sliceRange_one,pick_run,List.size_toArray] <;> rfl
def rSlL(K:Frag):V→Option Int→Option Int→Hp→VK→Prop:=fun x lo hi H Q=>∃a xs,x= .ref a∧SqL K H a xs∧∀p,H p=none→Q (.ref p) (upd H p (.lst (cutV xs lo hi)))
theorem dg_0:SlR X (rSlL X.K):=by
 intro zc s σ H x v vl vu lo hi sl Q I rx hs pl pu h;obtain⟨a,xs,rfl,hx,q⟩:=h;cases rx;obtain⟨its,r,ht,hz⟩:=I.list hx;have zj:=r.length;refine⟨"list",_,slot_list_getitem.lookup,ht.isList.typeIs, ?_⟩;refine wpAny_getItem_list_slice ht.isList hs pl pu .none (by simp) ?_ (by rw [List.size_toArray] <;> omega);rw [bc_7,←zj];refine⟨.ref s.heap.objs.size,_,I.laid (t':=s.toks) (o:= .lst (cutV xs lo hi)) (fun b ob q=>Heap.get?_push_of_some _ q) (Nat.le_refl _) ?_,rfl,q _ (I.hok.fresh (Nat.le_refl _))⟩;exact⟨Nat.le_trans (bt_3 xs lo hi) hz,_,0,(r.drop (HT.sIx xs.length 0 lo)).take (HT.sIx xs.length xs.length hi - HT.sIx xs.length 0 lo),Heap.get?_push_size _ rfl⟩
def af_8:V→Bool
 | .non=>true
 | .bl _=>true
 | .int _=>true
 | .str _=>true
 |_=>false
def eqV:V→V→Bool
 | .non, .non=>true
 | .bl a, .bl b=>a ==b
 | .bl a, .int b=>(if a then 1 else 0) ==b
 | .int a, .bl b=>a ==(if b then 1 else 0)
 | .int a, .int b=>a ==b
 | .str a, .str b=>a ==b
 |_,_=>false
theorem dr_1{A:Around}{s:Shared}{y x:V}{u v:Value}(ry:RelV y u)(rx:RelV x v)(fy:af_8 y=true)(fx:af_8 x=true):SeqAt.EqAt A s u v (eqV y x):=by
 cases y with
 |non=>
  cases ry;cases x with
  |non=>cases rx;exact SeqAt.EqAt.same _
  |bl b=>cases rx;exact SeqAt.EqAt.none_bool b
  |int b=>obtain⟨t,rfl⟩:=rx;exact SeqAt.EqAt.none_int b t
  |str b=>obtain⟨t,rfl⟩:=rx;exact SeqAt.EqAt.none_str b t
  |_=>exact absurd (show false=true from fx) Bool.false_ne_true
 |bl a=>
  cases ry;cases x with
  |non=>cases rx;exact SeqAt.EqAt.bool_none a
  |bl b=>cases rx;exact SeqAt.EqAt.bool_bool a b
  |int b=>obtain⟨t,rfl⟩:=rx;exact SeqAt.EqAt.bool_int a b t
  |str b=>obtain⟨t,rfl⟩:=rx;exact SeqAt.EqAt.bool_str a b t
  |_=>exact absurd (show false=true from fx) Bool.false_ne_true
 |int a=>
  obtain⟨t',rfl⟩:=ry;cases x with
  |non=>cases rx;exact SeqAt.EqAt.int_none a t'
  |bl b=>cases rx;exact SeqAt.EqAt.int_bool a t' b
  |int b=>obtain⟨t,rfl⟩:=rx;exact SeqAt.EqAt.int_int a t' b t
  |str b=>obtain⟨t,rfl⟩:=rx;exact SeqAt.EqAt.int_str a t' b t
  |_=>exact absurd (show false=true from fx) Bool.false_ne_true
 |str a=>
  obtain⟨t',rfl⟩:=ry;cases x with
  |non=>cases rx;exact SeqAt.EqAt.str_none a t'
  |bl b=>cases rx;exact SeqAt.EqAt.str_bool a t' b
  |int b=>obtain⟨t,rfl⟩:=rx;exact SeqAt.EqAt.str_int a t' b t
  |str b=>obtain⟨t,rfl⟩:=rx;exact SeqAt.EqAt.str_str a t' b t
  |_=>exact absurd (show false=true from fx) Bool.false_ne_true
 |_=>exact absurd (show false=true from fy) Bool.false_ne_true
def eqU(x:V)(u:Value):Bool:=match u with
 | .none=>eqV .non x
 | .bool b=>eqV (.bl b) x
 | .int i _=>eqV (.int i) x
 | .str z _=>eqV (.str z) x
 |_=>false
theorem cu_3{x y:V}{u:Value}(r:RelV y u)(f:af_8 y=true):eqU x u=eqV y x:=by
 cases y with
 |non=>cases r;rfl
 |bl b=>cases r;rfl
 |int i=>obtain⟨t,rfl⟩:=r;rfl
 |str z=>obtain⟨t,rfl⟩:=r;rfl
 |_=>exact absurd (show false=true from f) Bool.false_ne_true
theorem aj_4{x:V}:∀{xs:List V} {us:List Value},Vals xs us→xs.all af_8=true→us.any (eqU x)=xs.any fun y=>eqV y x
 |_,_, .nil,_=>rfl
 |y::xs,u::us, .cons r t,f=>by
  rw [List.all_cons,Bool.and_eq_true] at f;rw [List.any_cons,List.any_cons,cu_3 r f.1,aj_4 t f.2]
theorem ac_0{A:Around}{s:Shared}{x:V}{v:Value}(rx:RelV x v)(fx:af_8 x=true):∀{xs:List V} {us:List Value},Vals xs us→xs.all af_8=true→∀u∈us,SeqAt.EqAt A s u v (eqU x u)
 |_,_, .nil,_=>fun u hu=>by cases hu
 |y::xs,u::us, .cons r t,f=>fun u' hu=>by
  rw [List.all_cons,Bool.and_eq_true] at f;rcases List.mem_cons.mp hu with rfl|hu
  ·rw [cu_3 r f.1];exact dr_1 r rx f.1 fx
  ·exact ac_0 rx fx t f.2 u' hu
def inV(x:V)(xs:List V):Bool:=xs.any fun y=>eqV y x
def rIn(K:Frag)(neg:Bool):R2:=fun x y H Q=>∃p xs,y= .ref p∧(SqL K H p xs∨SqT K H p xs)∧af_8 x=true∧xs.all af_8=true∧Q (.bl (if neg then !inV x xs else inV x xs)) H
theorem cn_5:OpR X (compareOp .In) (rIn X.K false):=by
 intro zc s σ H x y v u Q I rx ry h;obtain⟨p,xs,rfl,hq,fx,fs,q⟩:=h;cases ry;rcases hq with hq|hq
 ·obtain⟨its,r,pl,hz⟩:=I.list hq;refine SeqAt.in_listAt (eqU x) pl.isList (fun w hw=>ac_0 rx fx r fs w (by simpa using hw)) ⟨.bl _,H,I,rfl, ?_⟩;rw [show its.toArray.any (eqU x)=its.any (eqU x) by simp,aj_4 r fs];exact q
 ·obtain⟨its,r,pl,hz⟩:=I.tuple hq;refine SeqAt.in_tupleAt (eqU x) pl (fun w hw=>ac_0 rx fx r fs w (by simpa using hw)) ⟨.bl _,H,I,rfl, ?_⟩;rw [show its.toArray.any (eqU x)=its.any (eqU x) by simp,aj_4 r fs];exact q
theorem bk_7:OpR X (compareOp .NotIn) (rIn X.K true):=by
 intro zc s σ H x y v u Q I rx ry h;obtain⟨p,xs,rfl,hq,fx,fs,q⟩:=h;cases ry;rcases hq with hq|hq
 ·obtain⟨its,r,pl,hz⟩:=I.list hq;refine SeqAt.notIn_listAt (eqU x) pl.isList (fun w hw=>ac_0 rx fx r fs w (by simpa using hw)) ⟨.bl _,H,I,rfl, ?_⟩;rw [show its.toArray.any (eqU x)=its.any (eqU x) by simp,aj_4 r fs];exact q
 ·obtain⟨its,r,pl,hz⟩:=I.tuple hq;refine SeqAt.notIn_tupleAt (eqU x) pl (fun w hw=>ac_0 rx fx r fs w (by simpa using hw)) ⟨.bl _,H,I,rfl, ?_⟩;rw [show its.toArray.any (eqU x)=its.any (eqU x) by simp,aj_4 r fs];exact q
theorem bk_8:OpR X (compareOp .NotIn) (fun x y H Q=>∃i j,x= .str i∧y= .str j∧Q (.bl (!(!(Builtin.Str.occurrences j i 0 j.length 1).isEmpty))) H):=by
 intro zc s σ H x y v u Q I rx ry h;obtain⟨i,j,rfl,rfl,q⟩:=h;obtain⟨t,rfl⟩:=rx;obtain⟨t',rfl⟩:=ry;exact notIn_str ⟨.bl _,H,I,rfl,q⟩
theorem aj_5:ab_2 X (.builtin "len") (fun xs H Q=>∃p ys,xs= [.ref p]∧(SqL X.K H p ys∨SqT X.K H p ys)∧Q (.int ys.length) H):=by
 intro zc s σ H xs us Q I r h;obtain⟨p,ys,rfl,hq,q⟩:=h;obtain⟨u,rfl,rx⟩:=bt_1 r;cases rx;have hn:=ah_3;rcases hq with hq|hq
 ·obtain⟨its,r',pl,hz⟩:=I.list hq;have zj:=r'.length;exact Calls.call_len_list pl.isList (by simp only [List.size_toArray] <;> omega) ⟨.int ys.length,H,I.tok _,⟨s.toks + 1,by rw [List.size_toArray,zj]⟩,q⟩
 ·obtain⟨its,r',pl,hz⟩:=I.tuple hq;have zj:=r'.length;exact len_tuple pl (by simp only [List.size_toArray] <;> omega) ⟨.int ys.length,H,I.tok _,⟨s.toks + 1,by rw [List.size_toArray,zj]⟩,q⟩
theorem bk_9:ab_2 X (.builtin "len") (fun xs H Q=>∃z,xs= [.str z]∧z.length≤sizeLine∧Q (.int z.length) H):=by
 intro zc s σ H xs us Q I r h;obtain⟨z,rfl,hz,q⟩:=h;obtain⟨u,rfl,t,rfl⟩:=bt_1 r;have hn:=ah_3;exact len_str (by omega) ⟨.int z.length,H,I.tok _,⟨_,rfl⟩,q⟩
theorem aj_6:ab_2 X (.type "list") (fun xs H Q=>∃p ys,xs= [.ref p]∧(SqL X.K H p ys∨SqT X.K H p ys)∧∀l,H l=none→Q (.ref l) (upd H l (.lst ys))):=by
 intro zc s σ H xs us Q I r h;obtain⟨p,ys,rfl,hq,q⟩:=h;obtain⟨u,rfl,rx⟩:=bt_1 r;cases rx;have fin:∀(its:List Value),Vals ys its→ys.length≤sizeLine→∀(h':Heap) (c':Nat),(∀b o',s.heap.get? b=some o'→h'.get? b=some o')→
   h'.get? s.heap.objs.size=some {cls:= .type "list",dict:=none,data:= .seq its.toArray c',slots:= #[]}→EP X zc σ Q (.ref s.heap.objs.size) {s with heap:=h'}:=fun its r' hz h' c' kp e=>
  ⟨.ref s.heap.objs.size,_,I.laid (t':=s.toks) kp (Nat.le_refl _) (show ObjOk X.prog X.w _ h' _ (.lst ys) from⟨hz,its,c',r',e⟩),rfl,q _ (I.hok.fresh (Nat.le_refl _))⟩
 rcases hq with hq|hq
 ·obtain⟨its,r',pl,hz⟩:=I.list hq;have zj:=r'.length;obtain⟨o,ho,hc,n,hd⟩:=pl.isList;exact call_list_seq p (.inl rfl) ho hc hd (fun h' c' kp e=>fin its r' hz h' c' kp e) (by simp only [List.size_toArray] <;> omega)
 ·obtain⟨its,r',pl,hz⟩:=I.tuple hq;have zj:=r'.length;obtain⟨o,ho,hc,n,hd⟩:=pl;exact call_list_seq p (.inr rfl) ho hc hd (fun h' c' kp e=>fin its r' hz h' c' kp e) (by simp only [List.size_toArray] <;> omega)
theorem af_9:ab_2 X (.type "tuple") (fun xs H Q=>∃p ys,xs= [.ref p]∧((SqL X.K H p ys∧∀l,H l=none→Q (.ref l) (upd H l (.tup ys)))∨(SqT X.K H p ys∧Q (.ref p) H))):=by
 intro zc s σ H xs us Q I r h;obtain⟨p,ys,rfl,h⟩:=h;obtain⟨u,rfl,rx⟩:=bt_1 r;cases rx;rcases h with⟨hq,q⟩|⟨hq,q⟩
 ·obtain⟨its,r',pl,hz⟩:=I.list hq;have zj:=r'.length;refine call_tuple_list pl.isList (fun h' kp=> ?_) (by simp only [List.size_toArray] <;> omega);have I1:Inv X zc σ H {s with heap:=h'}:=I.kept (t':=s.toks) kp;have I2:Inv X zc σ (upd H h'.objs.size (.tup ys)) {s with heap:=h'.push {cls:= .type "tuple",data:= .seq its.toArray}}:=
   I1.laid (t':=s.toks) (fun b o e=>Heap.get?_push_of_some _ e) (Nat.le_refl _) (show ObjOk X.prog X.w _ _ _ (.tup ys) from⟨hz,its,r',IsTup.new _ _⟩)
  exact⟨.ref h'.objs.size,_,I2,rfl,q _ (I1.hok.fresh (Nat.le_refl _))⟩
 ·obtain⟨its,r',pl,hz⟩:=I.tuple hq;exact call_tuple_same pl ⟨.ref p,H,I,rfl,q⟩
def tyV(K:Frag)(T:String)(x:V)(H:Hp):Prop:=match x with
 | .str _=>T= "str"
 | .int _=>T= "int"
 | .ref p=>(T= "list" ∧∃xs,SqL K H p xs)∨(T= "tuple" ∧∃o,K.lookup p=some o∧o.cls= .type "tuple" ∧o.dict=none)∨
   (T= "dict" ∧((∃kvs,H p=some (.dK kvs))∨∃kvs,H p=some (.dT kvs)))∨(T= "set" ∧∃S n,H p=some (.set S n))
 |_=>False
theorem cu_4{zc:List (Addr×Obj)}{σ:St}{H:Hp}{s:Shared}{T:String}{x:V}{v:Value}(I:Inv X zc σ H s)(r:RelV x v)(ty:tyV X.K T x H):
  s.TypeIs v T∧∀a,v= .ref a→∃ob,s.heap.get? a=some ob∧ob.dict=none:=by
 cases x with
 |str z=>
  obtain⟨t,rfl⟩:=r;cases(show T= "str" from ty);exact⟨typeIs_str s z t,fun _ e=>nomatch e⟩
 |int i=>
  obtain⟨t,rfl⟩:=r;cases(show T= "int" from ty);exact⟨typeIs_int s i t,fun _ e=>nomatch e⟩
 |ref p=>
  cases r;rcases ty with⟨rfl,xs,hq⟩|⟨rfl,o,hk,hc,hd⟩|⟨rfl,hk⟩|⟨rfl,S,n,hk⟩
  ·obtain⟨its,_,pl,_⟩:=I.list hq;refine⟨pl.isList.typeIs,fun a e=> ?_⟩;cases e;obtain⟨o,n,e,c,hd,_⟩:=pl;exact⟨o,e,hd⟩
  ·refine⟨⟨o,I.kIn p o hk,hc⟩,fun a e=> ?_⟩;cases e;exact⟨o,I.kIn _ o hk,hd⟩
  ·have z:∃o,s.heap.get? p=some o∧o.ExactDict:=by
    rcases hk with⟨kvs,hk⟩|⟨kvs,hk⟩
    ·obtain⟨_,_,_,_,o,_,_,e,ex,_⟩:=I.hok p _ hk;exact⟨o,e,ex⟩
    ·obtain⟨_,_,_,_,o,_,_,e,ex,_⟩:=I.hok p _ hk;exact⟨o,e,ex⟩
   obtain⟨o,e,ex⟩:=z;refine⟨⟨o,e,ex.1⟩,fun a e2=> ?_⟩;cases e2;exact⟨o,e,ex.2.1⟩
  ·obtain⟨o,_,_,_,e,ex,_⟩:=I.hok p _ hk;refine⟨⟨o,e,ex.1⟩,fun a e2=> ?_⟩;cases e2;exact⟨o,e,ex.2.1⟩
 |_=>exact False.elim ty
def tBM0(K:Frag)(T:String)(r:V→List V→Hp→VK→Prop)(to:TE):TE:=fun σ H Q=>to σ H fun x H1=>tyV K T x H1∧r x [] H1 Q
def tBM(K:Frag)(T:String)(r:V→List V→Hp→VK→Prop)(to:TE)(t:TA):TE:=fun σ H Q=>to σ H fun x H1=>tyV K T x H1∧t σ H1 fun xs H2=>r x xs H2 Q
variable{o e:Expr}{es:List Expr}{to:TE}{t:TA}{name:Str}{zf zd:Pos}{T id:String}{r:V→List V→Hp→VK→Prop}
theorem dr_2(pa:PlainAttrs T)(slot:Slot T name id)(hty:typeOf (.builtin id)=pure (.type "method_descriptor"))(hm:MtR X id r)(ho:PE X o to)
  (ae:attributeBase o name X.env (eval o X.env)=eval o X.env:=by rfl) (af:(zf.endLine ==zd.line)=true:=by rfl):PE X (.Call (.Attribute o name zf) [] [] zd) (tBM0 X.K T r to):=by
 intro zc s σ H Q I h;refine wpAny_Call_method0_late ae af (thn (ho zc s σ H _ I h) fun v s1 ⟨x,H1,I1,r1,ty,q1⟩=> ?_);obtain⟨h1,h2⟩:=cu_4 I1 r1 ty;exact⟨T,id,pa,slot,hty,h1,h2,Calls.callWith_builtin rfl (PySem.evalArgs_none (hm zc s1 σ H1 x [] v [] Q I1 r1 .nil q1))⟩
theorem cu_5(pa:PlainAttrs T)(slot:Slot T name id)(hty:typeOf (.builtin id)=pure (.type "method_descriptor"))(hm:MtR X id r)(ho:PE X o to)(ha:PA X (e::es) t)
  (ae:attributeBase o name X.env (eval o X.env)=eval o X.env:=by rfl)
  (ay:((backTo zd (starEach (e::es) X.env)).all (fun x=> !x.1) && (backToKw zd (keywordEach [] X.env)).all (fun x=>x.1.isSome)
   && decide ((e::es).length + ([]:List Keyword).length + (if([]:List Keyword).isEmpty then 0 else 1) < 30))=true:=by rfl)
  (af:(zf.endLine ==zd.line)=true:=by rfl) (hs:starEach (e::es) X.env=(false,eval e X.env)::starEach es X.env:=by rfl) (aa:(backTo zd (starEach es X.env)).any (·.1)=false:=by rfl):
  PE X (.Call (.Attribute o name zf) (e::es) [] zd) (tBM X.K T r to t):=by
 intro zc s σ H Q I h;refine wpAny_Call_method_late ae ay af rfl (thn (ho zc s σ H _ I h) fun v s1 ⟨x,H1,I1,r1,ty,q1⟩=> ?_);obtain⟨h1,h2⟩:=cu_4 I1 r1 ty;refine⟨T,id,pa,slot,hty,h1,h2, ?_⟩;have hA:=ha zd zc s1 σ H1 _ I1 q1;rw [hs] at hA⊢;refine Calls.callWith_builtin (by show(false || (backTo zd (starEach es X.env)).any (·.1))=false;rw [aa] <;> rfl) (Calls.evalArgs_plain ?_);exact thn hA fun us s2 ⟨vs,H2,I2,r2,q2⟩=>hm zc s2 σ H2 x vs v us Q I2 r1 r2 q2
end
def MtM(X:Cx)(id:String)(r:V→List V→Hp→VK→Prop):Prop:=
 ∀(zc:List (Addr×Obj)) (s:Shared) (σ:St) (H:Hp) (x:V) (xs:List V) (v:Value) (us:List Value) (Q:VK),Inv X zc σ H s→RelV x v→Vals xs us→r x xs H Q→
  wpAny (model X.prog X.w) X.A (call (.builtin id) (v::us)) (EP X zc σ Q) X.xe s
theorem Vals.one:∀{x:V} {us:List Value},Vals [x] us→∃u,us= [u]∧RelV x u
 |_,_, .cons r .nil=>⟨_,rfl,r⟩
theorem Vals.two:∀{x y:V} {us:List Value},Vals [x,y] us→∃u v,us= [u,v]∧RelV x u∧RelV y v
 |_,_,_, .cons r (.cons q .nil)=>⟨_,_,rfl,r,q⟩
theorem Vals.zero:∀{us:List Value},Vals [] us→us= []
 |_, .nil=>rfl
theorem Vals.dropLast{xs:List V}{us:List Value}(h:Vals xs us):Vals xs.dropLast us.dropLast:=by
 induction h with
 |nil=>exact .nil
 |cons r t ih=>
  cases t with
  |nil=>exact .nil
  |cons q t'=>exact .cons r ih
theorem Vals.eraseIdx:∀{xs:List V} {us:List Value} (i:Nat),Vals xs us→Vals (xs.eraseIdx i) (us.eraseIdx i)
 |_,_,_, .nil=> .nil
 |_,_,0, .cons _ t=>t
 |_,_,i + 1, .cons r t=> .cons r (Vals.eraseIdx i t)
theorem Vals.reverse{xs:List V}{us:List Value}(h:Vals xs us):Vals xs.reverse us.reverse:=by
 induction h with
 |nil=>exact .nil
 |cons r t ih=>rw [List.reverse_cons,List.reverse_cons];exact Vals.append ih (.cons r .nil)
theorem Vals.rep{xs:List V}{us:List Value}(h:Vals xs us):∀k:Nat,Vals (List.replicate k xs).flatten (List.replicate k us).flatten
 |0=> .nil
 |k + 1=>by
  rw [List.replicate_succ,List.replicate_succ,List.flatten_cons,List.flatten_cons];exact Vals.append h (Vals.rep h k)
theorem cc_5{α:Type}(l:List α):l.eraseIdx (l.length - 1)=l.dropLast:=by
 induction l with
 |nil=>rfl
 |cons a r ih=>
  cases r with
  |nil=>rfl
  |cons b r=>
   have e:(a::b::r).length - 1=((b::r).length - 1) + 1:=by
    have h1:(a::b::r).length=r.length + 2:=rfl;have h2:(b::r).length=r.length + 1:=rfl;omega
   rw [e,List.eraseIdx_cons_succ,ih]
   all_goals rfl
theorem bf_7(its:List Value):∀(k:Nat) (zm:List Value),
  List.foldl (fun x1 x2=>x1 ++ x2) zm.toArray (List.replicate k its.toArray)=(zm ++ (List.replicate k its).flatten).toArray
 |0,zm=>by simp
 |k + 1,zm=>by
  have e:zm.toArray ++ its.toArray=(zm ++ its).toArray:=by simp
  have e2:(zm ++ its) ++ (List.replicate k its).flatten=zm ++ (List.replicate (k + 1) its).flatten:=by
   rw [List.replicate_succ,List.flatten_cons,List.append_assoc]
  rw [←e2,←bf_7 its k (zm ++ its),←e,List.replicate_succ,List.foldl_cons]
section
variable{X:Cx}{zc:List (Addr×Obj)}{σ:St}{H:Hp}{s:Shared}{l b:Addr}{xs ys zs:List V}
theorem Inv.lset{its its':List Value}{n:Nat}{f:Array Value→Array Value}{t':Nat}(I:Inv X zc σ H s)(hH:H l=some (.lst xs))
  (e:s.heap.get? l=some {cls:= .type "list",data:= .seq its.toArray n}) (hf:f its.toArray=its'.toArray) (hv:Vals ys its') (hz:ys.length≤sizeLine):
  Inv X zc σ (upd H l (.lst ys)) {s with heap:=s.heap.update l (Obj.mapSeq f),toks:=t'}:=by
 have q:=PySem.IsL.update e f;rw [hf] at q;refine I.write (x:=l) (e:=l) (by rw [hH];exact trivial) (.inl rfl) (fun b' u hb hu=>(Heap.get?_update_other s.heap (Obj.mapSeq f) (Ne.symm hb)).trans hu) ⟨_,q⟩ ?_;exact⟨hz,its',_,hv,q⟩
theorem Inv.lnew{its:List Value}{t':Nat}(I:Inv X zc σ H s)(hv:Vals ys its)(hz:ys.length≤sizeLine):
  Inv X zc σ (upd H s.heap.objs.size (.lst ys)) {s with heap:=s.heap.push {cls:= .type "list",data:= .seq its.toArray},toks:=t'}:=
 I.laid (fun _ _ q=>Heap.get?_push_of_some _ q) (Nat.le_refl _) ⟨hz,its,0,hv,Heap.get?_push_size _ rfl⟩
theorem Inv.fresh(I:Inv X zc σ H s):H s.heap.objs.size=none:=I.hok.fresh (Nat.le_refl _)
theorem Inv.lstM(I:Inv X zc σ H s)(hH:H l=some (.lst xs)):xs.length≤sizeLine∧∃(its:List Value) (n:Nat),Vals xs its∧xs.length=its.length∧s.heap.get? l=some {cls:= .type "list",data:= .seq its.toArray n}:=by
 obtain⟨z,its,n,r,e⟩:=I.hok l _ hH;exact⟨z,its,n,r,r.length,e⟩
theorem bt_5{n:Nat}(h:n≤sizeLine):Builtin.List.listTooLong n=false:=by
 unfold Builtin.List.listTooLong;exact decide_eq_false (by omega)
end
section
variable{X:Cx}
def ch_7:V→List V→Hp→VK→Prop:=fun x vs H Q=>∃l xs y,x= .ref l∧vs= [y]∧H l=some (.lst xs)∧xs.length < sizeLine∧Q .non (upd H l (.lst (xs ++ [y])))
theorem bf_8:MtM X "list.append" ch_7:=by
 intro zc s σ H x vs v us Q I rx rv h;obtain⟨l,xs,y,rfl,rfl,hH,hz,q⟩:=h;cases rx;obtain⟨u,rfl,ru⟩:=rv.one;obtain⟨z,its,n,r,hl,e⟩:=I.lstM hH;refine call_meets F.slot_list_append ⟨_,e,rfl⟩ F.entry_list_append (F.args_list_append_2 _ _) (PySem.list_append l its.toArray n u (by rw [List.size_toArray];omega)) ⟨e, ?_⟩;refine⟨.non,_,I.lset (its':=its ++ [u]) hH e (by simp) (r.append (.cons ru .nil)) ?_,rfl,q⟩;rw [List.length_append,List.length_singleton];omega
def rPop:V→List V→Hp→VK→Prop:=fun x vs H Q=>∃l xs y,x= .ref l∧vs= []∧H l=some (.lst xs)∧xs[xs.length - 1]? =some y∧Q y (upd H l (.lst xs.dropLast))
theorem dr_3:MtM X "list.pop" rPop:=by
 intro zc s σ H x vs v us Q I rx rv h;obtain⟨l,xs,y,rfl,rfl,hH,hy,q⟩:=h;cases rx;have hus:=rv.zero;subst hus;obtain⟨z,its,n,r,hl,e⟩:=I.lstM hH;obtain⟨u,hu,ru⟩:=r.get hy;have hy':its.toArray[its.toArray.size - 1]? =some u:=by
  show its.toArray[its.length - 1]? =some u;rw [←Array.getElem?_toList,←hl];exact hu
 refine call_meets F.slot_list_pop ⟨_,e,rfl⟩ F.entry_list_pop (F.args_list_pop_1 _) (MeetsSeq.list_pop_last l its.toArray n u hy' (by rw [List.size_toArray];omega)) ⟨e, ?_⟩;refine⟨y,_,I.lset (its':=its.dropLast) hH e ?_ r.dropLast ?_,ru,q⟩
 ·show its.toArray.eraseIdxIfInBounds (its.toArray.size - 1)=its.dropLast.toArray;rw [List.size_toArray,List.eraseIdxIfInBounds_toArray,cc_5]
 ·rw [List.length_dropLast];omega
def rRep:R2:=fun x y H Q=>∃l k xs,x= .ref l∧y= .int k∧H l=some (.lst xs)∧ -(2 ^ 63)≤k∧k < 2 ^ 63∧xs.length * k.toNat≤sizeLine∧
 ∀p,H p=none→Q (.ref p) (upd H p (.lst (List.replicate k.toNat xs).flatten))
theorem dg_1{α:Type}(xs:List α)(k:Nat):(List.replicate k xs).flatten.length=k * xs.length:=by
 induction k with
 |zero=>simp
 |succ k ih=>rw [List.replicate_succ,List.flatten_cons,List.length_append,ih,Nat.succ_mul,Nat.add_comm]
theorem dr_4:OpR X (binaryOp .Mult) rRep:=by
 intro zc s σ H x y v u Q I rx ry h;obtain⟨l,k,xs,rfl,rfl,hH,h1,h2,hz,q⟩:=h;cases rx;obtain⟨t,rfl⟩:=ry;obtain⟨z,its,n,r,hl,e⟩:=I.lstM hH;have zj:its.toArray.size * k.toNat≤sizeLine:=by rw [List.size_toArray,←hl];exact hz
 have ff:¬its.toArray.size * k.toNat > (2 ^ 63 - 1) / 8:=by
  have:(sizeLine:Nat)≤(2 ^ 63 - 1) / 8:=by decide
  omega
 have ft:¬(!Builtin.List.listFitsIndex k)=true:=by
  rw [fitsIndex_both h1 h2];exact Bool.false_ne_true
 have ax:¬Builtin.List.listTooLong (its.toArray.size * k.toNat)=true:=by
  rw [bt_5 zj];exact Bool.false_ne_true
 have dz:List.foldl (fun x1 x2=>x1 ++ x2) #[] (List.replicate (if its.toArray.isEmpty=true then 0 else k.toNat) its.toArray)=(List.replicate k.toNat its).flatten.toArray:=by
  have f0:∀m:Nat,List.foldl (fun x1 x2=>x1 ++ x2) #[] (List.replicate m its.toArray)=(List.replicate m its).flatten.toArray:=fun m=>by
   have:=bf_7 its m [];rw [List.nil_append] at this;exact this
  rw [f0];cases its with
  |nil=>simp
  |cons a r'=>rw [if_neg (by simp)]
 refine wpAny_binaryOp_repeat_ref (T:= "list") (U:= "int") (by decide) ⟨_,e,rfl⟩ (fun s'=>typeIs_int s' k t) noFill_list_mul F.fills_int_mul F.slot_int_rmul repeat_list F.slot_int_index.lookup
  (call_meets F.slot_int_rmul (typeIs_int s k t) F.entry_int_rmul (F.args_int_rmul_2 _ _) (int___rmul___int_list k t l its.toArray n)
   ⟨e,rfl,⟨_,e,rfl⟩,call_meets F.slot_list_mul ⟨_,e,rfl⟩ F.entry_list_mul (F.args_list_mul_2 _ _) (AutoListH.list___mul___list_int_3 l its.toArray n k t ft ff ax) ⟨e, ?_⟩⟩)
 rw [dz];exact⟨.ref _,_,I.lnew (t':=s.toks) (r.rep k.toNat) (by rw [dg_1,Nat.mul_comm];exact hz),rfl,q _ I.fresh⟩
end
section
variable{prog:Program}{w:World}{A:Around}{E:Value→Shared→Prop}{s:Shared}
end
section
variable{X:Cx}
end
end L2
namespace Att
open PySem PySem.W PySem.Calls PyProof.Rows
theorem at_8{P:Params}{h:Heap}:∀(ns:List Int) (vs:List Value),WellAll P h vs (ns.map WData.int)→IntsAre vs ns:=by
 intro ns
 induction ns with
 |nil=>
  intro vs w;rw [List.map_nil] at w;cases w;exact .nil
 |cons n ns ih=>
  intro vs w;rw [List.map_cons] at w;cases w with
  |cons a b=>
   cases a;exact .cons _ _ (ih _ b)
theorem cn_6{l:OpenLaw}{n:Nat}(hn:l.most=some n){P:Params}{h:Heap}{args:List WData}{vals:List Value}
  (ba:l.row.toRowW.claim.pre args=true) (hwl:WellAll P h vals args):
  ∃a vs ns,vals= [Value.ref a]∧args= [WData.list (ns.map WData.int)]∧h.get? a=some {cls:= .type "list",data:= .seq vs.toArray}∧IntsAre vs ns∧ns.length≤n:=by
 have hsh:WShape.hasAll [] args [.list .int]=true:=(pre_splitW ba).1;have hc:l.pre.holds [] {args:=args}=true:=(pre_splitW ba).2;obtain⟨d,r,rfl,h1,h2⟩:=hasAllW_cons hsh;obtain rfl:=hasAllW_nil h2;obtain⟨xs,rfl,h3⟩:=hasW_list h1;obtain⟨ns,rfl⟩:=items_int h3;have zj:ns.length≤n:=by
  unfold OpenLaw.pre at hc;have h4:(WTm.not (.lt (.lit (.int (n:Int))) (.len (.arg 0)))).holds [] {args:= [.list (ns.map .int)]}=true:=by
   have h4:=(holds_andW hc).1;rw [hn] at h4;exact h4
  have h5:=condW_of h4 (w_not (w_lt w_lit (w_len_list (w_arg rfl))));rw [List.length_map] at h5;refine Nat.le_of_not_lt fun q=> ?_;have q':(n:Int) < ((ns.length:Nat):Int):=by omega
  first
   |(rw [decide_eq_true q'] at h5;exact absurd h5 (by decide))
   |(simp at h5;omega)
 cases hwl with
 |cons w1 w2=>
  cases w2;cases w1 with
  |list ho hall=>exact⟨_,_,ns,rfl,rfl,ho,at_8 ns _ hall,zj⟩
theorem cn_7(l:OpenLaw)(args:List WData):l.row.toRowW.claim.post args (.bool true) args=true:=
 postW_of (r:=l.row.toRowW) (X:=(true ==true))
  (show WShape.has [] (.bool true) .bool=true by first|rfl|decide|simp [WShape.has,WShape.arms,WShape.armsAll])
  (show(WTm.eq .res (.lit (.bool true))).value [] {args:=args,res:=some (.bool true),after:=args}=some (.bool (true ==true)) from w_eq_bool (w_res rfl) w_lit) rfl
theorem attach_call{l:OpenLaw}{n:Nat}{q:Program}{loose:List Str}{XP:(Str→Option Value)→Heap→Prop}{YP:World→Heap→Prop}{d:DefRec}
  (hn:l.most=some n) (hdf:d.params.defaults= [])
  (call:∀(w:World) (s₀ s₁:Shared) (mg mb:Str→Option Value) (fa:Addr) (o:Obj) (pm cd doc:Value) (a:Addr) (vs:List Value) (ns:List Int),
   Ground q loose [] XP w s₀ mg mb s₁.heap→YP w s₁.heap→
   s₁.heap.get? fa=some o→o.data= .func (docDef d.name d.params d.body d.scope pm cd doc)→s₁.heap.CodeRec cd d.name→mg d.name=some (.ref fa)→
   s₁.heap.get? a=some {cls:= .type "list",data:= .seq vs.toArray}→IntsAre vs ns→ns.length≤n→s₁.gens= #[]→
   codeAny (model l.prog w) callerA (.call (.ref fa) ⟨[.ref a], []⟩) (fun r s'=>r= .ok (.ret (.bool true))∧OldK s₁.heap s'.heap∧s'.os=s₁.os∧AllBare s'.gens) s₁):
  WalkO q loose XP YP l.row.toRowW d [] (fun f vs=>PySem.call f vs):=by
 intro w s₀ s₁ mg mb G Y fa o pm cd doc dV kV ho hd hcd hD hmg hg args vals as ba hlay hrd hwl hlo;obtain rfl:dV= .none:=Dflts.none hD hdf;obtain rfl:kV= .none:=Dflts.noKw hD;obtain⟨a,vs,ns,rfl,rfl,bb,hints,zj⟩:=cn_6 hn ba hwl;refine enter_call (codeAny_mono (call w s₀ s₁ mg mb fa o pm cd doc a vs ns G Y ho (fd_plain hd) hcd hmg bb hints zj hg) fun r s' hq=> ?_);obtain⟨rfl,h2,h3,h4⟩:=hq;exact⟨.inl ⟨.bool true, .bool true, [],rfl,fun _=>rfl, .bool true,cn_7 l _,fun _=>⟨List.Pairwise.nil,fun _ hm=>(nomatch hm)⟩⟩,h2,h3,h4⟩
section
variable{prog:Program}{w:World}{A:Around}{E:Value→Shared→Prop}{s:Shared}{K:Frag}
end
end Att
namespace L2
open PySem PySem.Spec PyProof.Rows
theorem bf_9:∀{vs:List Value} {ns:List Int},IntsAre vs ns→Vals (ns.map V.int) vs
 |_,_, .nil=> .nil
 |_,_, .cons n t h=> .cons ⟨t,rfl⟩ (bf_9 h)
def Only(H:Hp):Prop:=∀b,H b=none∨∃o xs,H b=some (.frz o (.lst xs))
theorem cu_6{P:Program}{w:World}{K:Frag}{mg mb:Str→Option Value}{CX:CXT}{k:Nat}{fa a:Addr}{fd:FuncData}{x:Str}{sp:Sp}{s₁:Shared}{vs:List Value}{ns:List Int}
  (KX:K.In s₁.heap) (hns:s₁.heap.Ns mainGlobals mg) (hb:s₁.heap.Ns builtinsNs mb) (hbb:∀x:Str,x≠ "__name__" →mb x=bootBuiltins x) (di:s₁.heap.NoLimit) (hg:s₁.gens= #[])
  (ha:s₁.heap.get? a=some {cls:= .type "list",data:= .seq vs.toArray}) (hi:IntsAre vs ns) (hl:ns.length≤sizeLine) (hr:Room k callerA)
  (F:∀base:Heap,K.In base→base.Ns mainGlobals mg→FnOk P w K mg base CX k fa fd [x] sp) (ck:∀(s:Shared) (u:Value),BindsTo s fd ⟨[u], []⟩ [(x,u)])
  (hsp:∀H:Hp,Only H→SqL K H a (ns.map V.int)→sp [.ref a] H (fun v _=>v= .bl true) fun _ _ _=>False)
  (hCX:∀H e s',CX [] H s₁ (fun _ _ _=>False) e s'→False):
  codeAny (model P w) callerA (.call (.ref fa) ⟨[.ref a], []⟩) (fun r s'=>r= .ok (.ret (.bool true))∧OldK s₁.heap s'.heap∧s'.os=s₁.os∧AllBare s'.gens) s₁:=by
 have rv:=bf_9 hi;have dw:=hi.length
 
 have core:∀H:Hp,Only H→SqL K H a (ns.map V.int)→HOk P w H s₁.heap→(∀b,H b≠none→b=a)→(H a≠none→K.lookup a=none)→
   codeAny (model P w) callerA (.call (.ref fa) ⟨[.ref a], []⟩) (fun r s'=>r= .ok (.ret (.bool true))∧OldK s₁.heap s'.heap∧s'.os=s₁.os∧AllBare s'.gens) s₁:=by
  intro H hO hS hok hA hK;have aq:∀{b:Addr} {o:Obj},s₁.heap.get? b=some o→H b=none→(hidT s₁.heap H).get? b=some o:=fun e n=>cs_6 e n;have noA:∀{b:Addr} {o:Obj} {es:Array DictEntry} {ep:Nat},s₁.heap.get? b=some o→o.data= .dict es ep→H b=none:=fun{b o es ep} e d=>by
   cases q:H b with
   |none=>rfl
   |some u=>
    have e':b=a:=hA b (by rw [q];simp);subst e';rw [ha] at e;cases e;have d':Data.seq vs.toArray _=Data.dict es ep:=d;cases d'
  have nsK:∀{b:Addr} {m:Str→Option Value},s₁.heap.Ns b m→(hidT s₁.heap H).Ns b m:=fun{b m} ⟨o,es,ep,e,d,r⟩=>⟨o,es,ep,aq e (noA e d),d,r⟩;have hKb:K.In (hidT s₁.heap H):=fun b o e=>aq (KX b o e) (by
   cases q:H b with
   |none=>rfl
   |some u=>
    have e':b=a:=hA b (by rw [q];simp);subst e';rw [hK (by rw [q];simp)] at e;cases e)
  have hM:Mod K mg (hidT s₁.heap H):=⟨hKb,nsK hns,⟨mb,nsK hb,hbb⟩,let⟨mc,h1,h2⟩:=di;⟨mc,nsK h1,h2⟩⟩;have e0:Env0 P w K mg (hidT s₁.heap H) callerA [] s₁ H:=⟨rfl,hM,fun b o e=>de_4 e,Nat.le_of_eq (cm_2 _ _),trivial,fun b hb=>absurd (show b∈([]:List Addr) from hb) (by simp),hok, .of_eq hg⟩;refine codeAny_mono ((F _ hKb (nsK hns)).run callerA [] s₁ H ⟨[.ref a], []⟩ [.ref a] [.ref a] _ _ hr e0 (ck s₁ (.ref a)) (.cons rfl .nil) (hsp H hO hS)) fun r s' h=> ?_;cases r with
  |error e=>exact(hCX H e s' h).elim
  |ok fl=>
   cases fl with
   |next=>exact False.elim h
   |brk=>exact False.elim h
   |cont=>exact False.elim h
   |ret u=>
    obtain⟨v,H',os,bare,un,fb,r',q⟩:=h;have q':v= .bl true:=q;subst q';obtain rfl:u=Value.bool true:=r';refine⟨rfl,OldK.of_keep fun b o e=> ?_,os,bare⟩;cases q:H b with
    |none=>exact un.keep b o e q (by intro z;exact absurd (show b∈([]:List Addr) from z) (by simp)) (by simp)
    |some u=>
     rcases hO b with z|⟨ob,xs,z⟩
     ·rw [q] at z;cases z
     ·have z2:=un.frzs b ob _ z;obtain⟨e1,_⟩:=hok b _ z;obtain⟨e2,_⟩:=fb b _ z2;rw [e] at e1;cases e1;exact e2
 cases hk:K.lookup a with
 |some o=>
  
  have e:=KX a o hk;rw [ha] at e;cases e;refine core (fun _=>none) (fun _=> .inl rfl) (.inr ⟨_,vs.toArray,_,hk,rfl,rfl,rfl,by rw [List.size_toArray,dw];exact hl,by simpa using rv⟩) (fun b u z=>by have z':(none:Option HO)=some u:=z;cases z') (fun b z=>absurd rfl z) fun z=>absurd rfl z
 |none=>
  refine core (fun b=>if b=a then some (.frz {cls:= .type "list",data:= .seq vs.toArray} (.lst (ns.map V.int))) else none) (fun b=> ?_) (.inl (.inr ⟨{cls:= .type "list",data:= .seq vs.toArray},if_pos rfl⟩)) (fun b u z=> ?_) (fun b z=> ?_) fun _=>hk
  ·by_cases hb:b=a
   ·exact .inr ⟨_,_,if_pos hb⟩
   ·exact .inl (if_neg hb)
  ·by_cases hb:b=a
   ·have z':=(if_pos hb).symm.trans z;cases z';subst hb;exact⟨ha,by rw [List.length_map];exact hl,vs,_,rv,ha⟩
   ·have z':=(if_neg hb).symm.trans z;cases z'
  ·by_cases hb:b=a
   ·exact hb
   ·exact absurd (if_neg hb) z
theorem dg_2{l:PySem.W.OpenLaw}{n k:Nat}{q:Program}{loose:List Str}{XP:(Str→Option Value)→Heap→Prop}{YP:World→Heap→Prop}{d:DefRec}{K:Params→Frag}{CX:World→CXT}{sp:World→Sp}{x:Str}
  (hn:l.most=some n) (hn2:n≤sizeLine) (hdf:d.params.defaults= []) (hr:Room k callerA)
  (hY:∀(w:World) (h:Heap),YP w h→(K w.params).In h)
  (F:∀(w:World) (mg:Str→Option Value) (fa:Addr) (h:Heap),(K w.params).In h→h.Ns mainGlobals mg→mg d.name=some (.ref fa)→
   ∃fd:FuncData,(∀(s:Shared) (u:Value),BindsTo s fd ⟨[u], []⟩ [(x,u)])∧
    ∀base:Heap,(K w.params).In base→base.Ns mainGlobals mg→FnOk l.prog w (K w.params) mg base (CX w) k fa fd [x] (sp w))
  (hsp:∀(w:World) (H:Hp) (a:Addr) (ns:List Int),ns.length≤n→Only H→SqL (K w.params) H a (ns.map V.int)→sp w [.ref a] H (fun v _=>v= .bl true) fun _ _ _=>False)
  (hCX:∀(w:World) (H:Hp) (s:Shared) (e:Value) (s':Shared),CX w [] H s (fun _ _ _=>False) e s'→False):
  PySem.W.WalkO q loose XP YP l.row.toRowW d [] (fun f vs=>PySem.call f vs):=by
 refine Att.attach_call hn hdf fun w s₀ s₁ mg mb fa o pm cd doc a vs ns G Y ho hd hcd hmg bb hints zj hg=> ?_;have KX:=hY w _ Y;obtain⟨fd,hb,hF⟩:=F w mg fa _ KX G.T.g hmg;exact cu_6 KX G.T.g G.T.b G.T.builtins G.T.nolimit hg bb hints (Nat.le_trans zj hn2) hr hF hb (fun H hO hS=>hsp w H a ns zj hO hS) fun H e s'=>hCX w H s₁ e s'
def g_2(s:Stmt):Arguments:=match s with
 | .FunctionDef _ a _ _ _ _ _ _ _ _=>a
 |_=>{posonlyargs:= [],args:= [],vararg:=none,kwonlyargs:= [],kw_defaults:= [],kwarg:=none,defaults:= []}
def e_1(s:Stmt):List Stmt:=match s with
 | .FunctionDef _ _ b _ _ _ _ _ _ _=>b
 |_=> []
def b_2(s:Stmt):Scope:=match s with
 | .FunctionDef _ _ _ _ _ _ sc _ _ _=>sc
 |_=>{kind:= .function,names:= [],isGenerator:=false,isCoroutine:=false}
abbrev CX0:CXT:=fun _ _ _ _ _ _=>False
abbrev E0:XK:=fun _ _ _=>False
structure Fun(K:Frag)(x qual:Str)(st:Stmt)(f:Addr)(fd:FuncData):Prop where
 ex:∃(oc:Value) (od:Option Addr) (kV doc pm:Value) (an:Option Addr) (zn ct:Value) (osl:Array (Option Value)),
  fd=fnOf x qual (g_2 st) (e_1 st) (b_2 st) .none kV doc pm an zn ct∧K.lookup f=some ⟨oc,od, .func fd,osl⟩∧codeIn K zn qual=true
 kp:keepIn K (.ref f)=true
section
variable{P:Program}{w:World}{K:Frag}{mg:Str→Option Value}{base:Heap}
theorem Fun.binds{x qual:Str}{st:Stmt}{f:Addr}{fd:FuncData}{ps:List Str}(F:Fun K x qual st f fd)
  (h:∀(kV doc pm:Value) (an:Option Addr) (zn ct:Value) (us:List Value),us.length=ps.length→bindArgs (fnOf x qual (g_2 st) (e_1 st) (b_2 st) .none kV doc pm an zn ct) ⟨us, []⟩=pure (ps.zip us)):Binds K fd ps []:=by
 obtain⟨oc,od,kV,doc,pm,an,zn,ct,osl,rfl,lk,hcd⟩:=F.ex;exact .all (h kV doc pm an zn ct)
theorem an_9{x qual:Str}{st:Stmt}{f:Addr}{oc:Value}{od an:Option Addr}{osl:Array (Option Value)}{kV doc pm zn ct:Value}(l:K.lookup f=some ⟨oc,od, .func (fnOf x qual (g_2 st) (e_1 st) (b_2 st) .none kV doc pm an zn ct),osl⟩)
  (c:codeIn K zn qual=true) (k:keepIn K (.ref f)=true):Fun K x qual st f (fnOf x qual (g_2 st) (e_1 st) (b_2 st) .none kV doc pm an zn ct):=⟨⟨oc,od,kV,doc,pm,an,zn,ct,osl,rfl,l,c⟩,k⟩
end
section
variable{X:Cx}
end
def Same(H H':Hp):Prop:=∀b o,H b=some o→H' b=some o
theorem Same.refl(H:Hp):Same H H:=fun _ _ h=>h
theorem Same.trans{H H1 H2:Hp}(a:Same H H1)(b:Same H1 H2):Same H H2:=fun c o h=>b c o (a c o h)
theorem Same.free{H H':Hp}(e:Same H H'){l:Addr}(h:H' l=Option.none):H l=Option.none:=by
 cases q:H l with
 |none=>rfl
 |some o=>
  rw [e l o q] at h;cases h
theorem Same.seq{K:Frag}{H H':Hp}{a:Addr}{xs:List V}(e:Same H H')(h:SqL K H a xs):SqL K H' a xs:=by
 rcases h with(h|⟨o,h⟩)|h
 ·exact .inl (.inl (e _ _ h))
 ·exact .inl (.inr ⟨o,e _ _ h⟩)
 ·exact .inr h
end L2
namespace L3
open PySem PySem.Spec PyProof.Rows L2
variable{K:Frag}{fd:FuncData}{mg:Str→Option Value}{P:Program}{vs:List V}{us:List Value}{base:Heap}{H:Hp}{X:Cx}{pos:Pos}{v:V}
abbrev Sg:=L2.St
inductive D where
 |non|bl (b:Bool)|int (i:Int)|str (x:Str)|lst (ds:List D)|tup (ds:List D)|dic (kvs:List (Key×D))
 |exn (c:Str) (ns:List Str) (vs:List D)|obj (c:Str) (ns:List Str) (vs:List D)
structure Xn where
 c:Str
 ns:List Str
 vs:List D
inductive R(α:Type) where
 |ok (a:α)|ex (x:Xn)|no
namespace R
def bind{α β:Type}(r:R α)(k:α→R β):R β:=match r with
 | .ok a=>k a
 | .ex x=> .ex x
 | .no=> .no
@[simp] theorem bind_ok{α β:Type}(a:α)(k:α→R β):(R.ok a).bind k=k a:=rfl
@[simp] theorem bind_ex{α β:Type}(x:Xn)(k:α→R β):(R.ex x).bind k= .ex x:=rfl
@[simp] theorem bind_no{α β:Type}(k:α→R β):(R.no).bind k= .no:=rfl
end R
inductive Tn where
 |sh (d:D)|lst (ts:List Tn)|tup (ts:List Tn)|dic (zk:List (Key×Tn))|obj (c:Str) (ns:List Str) (ts:List Tn)
mutual
def Tn.d:Tn→D
 | .sh d=>d
 | .lst ts=> .lst (Tn.ds ts)
 | .tup ts=> .tup (Tn.ds ts)
 | .dic zk=> .dic (Tn.ks zk)
 | .obj c ns ts=> .obj c ns (Tn.ds ts)
def Tn.ds:List Tn→List D
 | []=> []
 |t::ts=>t.d::Tn.ds ts
def Tn.ks:List (Key×Tn)→List (Key×D)
 | []=> []
 |(k,t)::ts=>(k,t.d)::Tn.ks ts
end
def Tn.of:D→Tn
 | .lst ds=> .lst (ds.map .sh)
 | .dic kvs=> .dic (kvs.map fun p=>(p.1, .sh p.2))
 | .obj c ns vs=> .obj c ns (vs.map .sh)
 |d=> .sh d
theorem Tn.ds_sh:∀ds:List D,Tn.ds (ds.map .sh)=ds
 | []=>rfl
 |d::ds=>by
  show(Tn.sh d).d::Tn.ds (ds.map .sh)=_;rw [Tn.ds_sh ds];rfl
theorem Tn.ks_sh:∀kvs:List (Key×D),Tn.ks (kvs.map fun p=>(p.1,Tn.sh p.2))=kvs
 | []=>rfl
 |(k,d)::kvs=>by
  show(k,(Tn.sh d).d)::Tn.ks (kvs.map fun p=>(p.1,Tn.sh p.2))=_;rw [Tn.ks_sh kvs];rfl
theorem Tn.ks_fst:∀zk:List (Key×Tn),(Tn.ks zk).map (·.1)=zk.map (·.1)
 | []=>rfl
 |(k,t)::zk=>by show k::(Tn.ks zk).map (·.1)=_;rw [Tn.ks_fst zk];rfl
theorem Tn.ks_snd:∀zk:List (Key×Tn),(Tn.ks zk).map (·.2)=Tn.ds (zk.map (·.2))
 | []=>rfl
 |(k,t)::zk=>by show t.d::(Tn.ks zk).map (·.2)=_;rw [Tn.ks_snd zk];rfl
theorem Tn.of_d(d:D):(Tn.of d).d=d:=by
 cases d with
 |lst ds=>show D.lst (Tn.ds (ds.map .sh))=_;rw [Tn.ds_sh]
 |dic kvs=>show D.dic (Tn.ks (kvs.map fun p=>(p.1, .sh p.2)))=_;rw [Tn.ks_sh]
 |obj c ns vs=>show D.obj c ns (Tn.ds (vs.map .sh))=_;rw [Tn.ds_sh]
 |_=>rfl
inductive W where
 |sh (d:D)|ow (d:D)|tr (t:Tn)
def W.d:W→D
 | .sh d=>d
 | .ow d=>d
 | .tr t=>t.d
@[simp] theorem W.d_sh(d:D):(W.sh d).d=d:=rfl
@[simp] theorem W.d_ow(d:D):(W.ow d).d=d:=rfl
@[simp] theorem W.d_tr(t:Tn):(W.tr t).d=t.d:=rfl
def ClsAt(K:Frag)(c:Str)(C:Addr):Prop:=nsIn K mainGlobals c=some (some (.ref C))
def XO(a C:Addr)(dx:Option Addr):HO:= .ext fun h=>∃us sl,h.get? a=some ⟨.ref C,dx, .fields us,sl⟩
mutual
inductive Has(K:Frag)(G:Hp):V→D→Prop where
 |non:Has K G .non .non
 |bl (b:Bool):Has K G (.bl b) (.bl b)
 |int (i:Int):Has K G (.int i) (.int i)
 |str (x:Str):Has K G (.str x) (.str x)
 |lst {a:Addr} {vs:List V} {ds:List D} (h:SqL K G a vs) (r:HasL K G vs ds):Has K G (.ref a) (.lst ds)
 |tup {a:Addr} {vs:List V} {ds:List D} (h:SqT K G a vs) (r:HasL K G vs ds):Has K G (.ref a) (.tup ds)
 |exn0 {a C:Addr} {c:Str} (hc:ClsAt K c C) (h:G a=some (XO a C none)):Has K G (.ref a) (.exn c [] [])
 |exn1 {a C d:Addr} {c:Str} {ns:List Str} {us:List V} {vs:List D} (hc:ClsAt K c C) (h:G a=some (XO a C (some d))) (hd:G d=some (.xd (ns.zip us))) (hl:ns.length=us.length) (r:HasL K G us vs):Has K G (.ref a) (.exn c ns vs)
 |dic {a:Addr} {kvs:List (Key×V)} {kds:List (Key×D)} (h:Rd G a (.dK kvs)) (hk:kvs.map (·.1)=kds.map (·.1)) (r:HasL K G (kvs.map (·.2)) (kds.map (·.2))):Has K G (.ref a) (.dic kds)
 |obj {a C dx:Addr} {c:Str} {ns:List Str} {us:List V} {vs:List D} (hc:ClsAt K c C) (h:G a=some (.ins C dx (ns.zip us))) (hl:ns.length=us.length) (r:HasL K G us vs):Has K G (.ref a) (.obj c ns vs)
inductive HasL(K:Frag)(G:Hp):List V→List D→Prop where
 |nil:HasL K G [] []
 |cons {v:V} {d:D} {vs:List V} {ds:List D} (h:Has K G v d) (r:HasL K G vs ds):HasL K G (v::vs) (d::ds)
end
abbrev AS:=Addr→Prop
mutual
inductive Ow(K:Frag)(G H:Hp):V→Tn→AS→Prop where
 |sh {v:V} {d:D} {S:AS} (h:Has K G v d):Ow K G H v (.sh d) S
 |lst {a:Addr} {vs:List V} {ts:List Tn} {S S1:AS} (h:H a=some (.lst vs)) (ha:S a) (sub:∀b,S1 b→S b∧b≠a) (r:OwL K G H vs ts S1):Ow K G H (.ref a) (.lst ts) S
 |tup {a:Addr} {vs:List V} {ts:List Tn} {S S1:AS} (h:H a=some (.tup vs)) (ha:S a) (sub:∀b,S1 b→S b∧b≠a) (r:OwL K G H vs ts S1):Ow K G H (.ref a) (.tup ts) S
 |dic {a:Addr} {kvs:List (Key×V)} {zk:List (Key×Tn)} {S S1:AS} (h:H a=some (.dK kvs)) (hk:kvs.map (·.1)=zk.map (·.1)) (ha:S a) (sub:∀b,S1 b→S b∧b≠a) (r:OwL K G H (kvs.map (·.2)) (zk.map (·.2)) S1):Ow K G H (.ref a) (.dic zk) S
 |obj {a C dx:Addr} {c:Str} {ns:List Str} {us:List V} {ts:List Tn} {S S1:AS} (hc:ClsAt K c C) (h:H a=some (.ins C dx (ns.zip us))) (hl:ns.length=us.length) (ha:S a) (sub:∀b,S1 b→S b∧b≠a) (r:OwL K G H us ts S1):Ow K G H (.ref a) (.obj c ns ts) S
inductive OwL(K:Frag)(G H:Hp):List V→List Tn→AS→Prop where
 |nil {S:AS}:OwL K G H [] [] S
 |cons {v:V} {t:Tn} {vs:List V} {ts:List Tn} {S S1 S2:AS} (h:Ow K G H v t S1) (r:OwL K G H vs ts S2) (dj:∀b,S1 b→S2 b→False) (s1:∀b,S1 b→S b) (s2:∀b,S2 b→S b):OwL K G H (v::vs) (t::ts) S
end
theorem Same.rdD{H H':Hp}{a:Addr}{u:HO}(e:Same H H')(h:Rd H a u):Rd H' a u:=by
 rcases h with h|⟨o,h⟩
 ·exact .inl (e _ _ h)
 ·exact .inr ⟨o,e _ _ h⟩
theorem Same.tupS{H H':Hp}{a:Addr}{xs:List V}(e:Same H H')(h:SqT K H a xs):SqT K H' a xs:=by
 rcases h with(h|⟨o,h⟩)|h
 ·exact .inl (.inl (e _ _ h))
 ·exact .inl (.inr ⟨o,e _ _ h⟩)
 ·exact .inr h
mutual
theorem Has.mono{G G':Hp}(e:Same G G'):∀{v:V} {d:D},Has K G v d→Has K G' v d
 |_,_, .non=> .non
 |_,_, .bl b=> .bl b
 |_,_, .int i=> .int i
 |_,_, .str x=> .str x
 |_,_, .lst h r=> .lst (e.seq h) (HasL.mono e r)
 |_,_, .tup h r=> .tup (Same.tupS e h) (HasL.mono e r)
 |_,_, .exn0 hc h=> .exn0 hc (e _ _ h)
 |_,_, .exn1 hc h hd hl r=> .exn1 hc (e _ _ h) (e _ _ hd) hl (HasL.mono e r)
 |_,_, .dic h hk r=> .dic (Same.rdD e h) hk (HasL.mono e r)
 |_,_, .obj hc h hl r=> .obj hc (e _ _ h) hl (HasL.mono e r)
theorem HasL.mono{G G':Hp}(e:Same G G'):∀{vs:List V} {ds:List D},HasL K G vs ds→HasL K G' vs ds
 |_,_, .nil=> .nil
 |_,_, .cons h r=> .cons (Has.mono e h) (HasL.mono e r)
end
theorem HasL.length{G:Hp}:∀{vs:List V} {ds:List D},HasL K G vs ds→vs.length=ds.length
 |_,_, .nil=>rfl
 |_,_, .cons _ r=>by rw [List.length_cons,List.length_cons,r.length]
theorem HasL.append{G:Hp}:∀{vs ws:List V} {ds es:List D},HasL K G vs ds→HasL K G ws es→HasL K G (vs ++ ws) (ds ++ es)
 |_,_,_,_, .nil,s=>s
 |_,_,_,_, .cons h r,s=> .cons h (r.append s)
theorem HasL.get{G:Hp}:∀{vs:List V} {ds:List D} {i:Nat} {d:D},HasL K G vs ds→ds[i]? =some d→∃v,vs[i]? =some v∧Has K G v d
 |_,_,_,_, .nil,e=>by simp at e
 |_,_,0,_, .cons h _,e=>by simp at e;subst e;exact⟨_,rfl,h⟩
 |_,_,i + 1,d, .cons _ r,e=>by
  obtain⟨u,h1,h2⟩:=HasL.get (i:=i) (d:=d) r (by simpa using e);exact⟨u,by simpa using h1,h2⟩
theorem HasL.take{G:Hp}:∀{vs:List V} {ds:List D} (n:Nat),HasL K G vs ds→HasL K G (vs.take n) (ds.take n)
 |_,_,0,_=> .nil
 |_,_,_ + 1, .nil=> .nil
 |_,_,n + 1, .cons h r=> .cons h (HasL.take n r)
theorem HasL.drop{G:Hp}:∀{vs:List V} {ds:List D} (n:Nat),HasL K G vs ds→HasL K G (vs.drop n) (ds.drop n)
 |_,_,0,r=>r
 |_,_,_ + 1, .nil=> .nil
 |_,_,n + 1, .cons _ r=>HasL.drop n r
theorem HasL.set{G:Hp}{d:D}(h:Has K G v d):∀{vs:List V} {ds:List D} (i:Nat),HasL K G vs ds→HasL K G (vs.set i v) (ds.set i d)
 |_,_,_, .nil=> .nil
 |_,_,0, .cons _ r=> .cons h r
 |_,_,i + 1, .cons q r=> .cons q (HasL.set h i r)
mutual
theorem Ow.mono{G G' H H':Hp}(e:Same G G'):∀{v:V} {d:Tn} {S S':AS},Ow K G H v d S→(∀b o,S b→H b=some o→H' b=some o)→(∀b,S b→S' b)→Ow K G' H' v d S'
 |_,_,_,_, .sh h,_,_=> .sh (h.mono e)
 |_,_,_,_, .lst h ha sub r,f,i=> .lst (f _ _ ha h) (i _ ha) (fun b hb=>⟨i b (sub b hb).1,(sub b hb).2⟩) (OwL.mono e r (fun b o hb q=>f b o (sub b hb).1 q) fun _ q=>q)
 |_,_,_,_, .tup h ha sub r,f,i=> .tup (f _ _ ha h) (i _ ha) (fun b hb=>⟨i b (sub b hb).1,(sub b hb).2⟩) (OwL.mono e r (fun b o hb q=>f b o (sub b hb).1 q) fun _ q=>q)
 |_,_,_,_, .dic h hk ha sub r,f,i=> .dic (f _ _ ha h) hk (i _ ha) (fun b hb=>⟨i b (sub b hb).1,(sub b hb).2⟩) (OwL.mono e r (fun b o hb q=>f b o (sub b hb).1 q) fun _ q=>q)
 |_,_,_,_, .obj hc h hl ha sub r,f,i=> .obj hc (f _ _ ha h) hl (i _ ha) (fun b hb=>⟨i b (sub b hb).1,(sub b hb).2⟩) (OwL.mono e r (fun b o hb q=>f b o (sub b hb).1 q) fun _ q=>q)
theorem OwL.mono{G G' H H':Hp}(e:Same G G'):∀{vs:List V} {ds:List Tn} {S S':AS},OwL K G H vs ds S→(∀b o,S b→H b=some o→H' b=some o)→(∀b,S b→S' b)→OwL K G' H' vs ds S'
 |_,_,_,_, .nil,_,_=> .nil
 |_,_,_,_, .cons h r dj s1 s2,f,i=> .cons (Ow.mono e h (fun b o hb q=>f b o (s1 b hb) q) fun _ q=>q) (OwL.mono e r (fun b o hb q=>f b o (s2 b hb) q) fun _ q=>q) dj (fun b q=>i b (s1 b q)) fun b q=>i b (s2 b q)
end
mutual
theorem Ow.has{G G' H:Hp}(e:Same G G'):∀{v:V} {d:Tn} {S:AS},Ow K G H v d S→(∀b o,S b→H b=some o→G' b=some o)→Has K G' v d.d
 |_,_,_, .sh h,_=>h.mono e
 |_,_,_, .lst h ha sub r,f=> .lst (SqL.of (f _ _ ha h)) (OwL.has e r fun b o hb q=>f b o (sub b hb).1 q)
 |_,_,_, .tup h ha sub r,f=> .tup (SqT.of (f _ _ ha h)) (OwL.has e r fun b o hb q=>f b o (sub b hb).1 q)
 |_,_,_, .dic h hk ha sub r,f=> .dic (.inl (f _ _ ha h)) (by rw [Tn.ks_fst];exact hk) (by rw [Tn.ks_snd];exact OwL.has e r fun b o hb q=>f b o (sub b hb).1 q)
 |_,_,_, .obj hc h hl ha sub r,f=> .obj hc (f _ _ ha h) hl (OwL.has e r fun b o hb q=>f b o (sub b hb).1 q)
theorem OwL.has{G G' H:Hp}(e:Same G G'):∀{vs:List V} {ds:List Tn} {S:AS},OwL K G H vs ds S→(∀b o,S b→H b=some o→G' b=some o)→HasL K G' vs (Tn.ds ds)
 |_,_,_, .nil,_=> .nil
 |_,_,_, .cons h r dj s1 s2,f=> .cons (Ow.has e h fun b o hb q=>f b o (s1 b hb) q) (OwL.has e r fun b o hb q=>f b o (s2 b hb) q)
end
theorem OwL.of{G H:Hp}:∀{vs:List V} {ds:List D} {S:AS},HasL K G vs ds→OwL K G H vs (ds.map .sh) S
 |_,_,_, .nil=> .nil
 |_,_,_, .cons h r=> .cons (S1:=fun _=>False) (S2:=fun _=>False) (.sh h) (OwL.of r) (fun _ z _=>z) (fun _ z=>z.elim) fun _ z=>z.elim
theorem OwL.off{G H:Hp}:∀{vs:List V} {ds:List D} {S:AS},OwL K G H vs (ds.map .sh) S→HasL K G vs ds
 |_, [],_,h=>by cases h;exact .nil
 |_,d::ds,_,h=>by
  cases h with
  |cons h r dj s1 s2=>
   cases h with
   |sh h=>exact .cons h (OwL.off r)
theorem Ow.list{G H:Hp}{a:Addr}{ds:List D}{S:AS}(h:H a=some (.lst vs))(ha:S a)(r:HasL K G vs ds):Ow K G H (.ref a) (Tn.of (.lst ds)) S:=
 .lst (S1:=fun _=>False) h ha (fun _ z=>z.elim) (.of r)
theorem Ow.list_of{G H:Hp}{ds:List D}{S:AS}(t:Ow K G H v (Tn.of (.lst ds)) S):∃a vs,v= .ref a∧S a∧H a=some (.lst vs)∧HasL K G vs ds:=by
 cases t with
 |lst h ha sub r=>exact⟨_,_,rfl,ha,h,r.off⟩
theorem cu_7(kds:List (Key×D)):(kds.map fun p=>(p.1,Tn.sh p.2)).map (·.2)=(kds.map (·.2)).map Tn.sh:=by
 rw [List.map_map,List.map_map];rfl
theorem ch_8(kds:List (Key×D)):(kds.map fun p=>(p.1,Tn.sh p.2)).map (·.1)=kds.map (·.1):=by
 rw [List.map_map];rfl
theorem Ow.dict{G H:Hp}{a:Addr}{kvs:List (Key×V)}{kds:List (Key×D)}{S:AS}(h:H a=some (.dK kvs))(hk:kvs.map (·.1)=kds.map (·.1))(ha:S a)(r:HasL K G (kvs.map (·.2)) (kds.map (·.2))):Ow K G H (.ref a) (Tn.of (.dic kds)) S:=
 .dic (S1:=fun _=>False) h (by rw [ch_8];exact hk) ha (fun _ z=>z.elim) (by rw [cu_7];exact .of r)
theorem Ow.dict_of{G H:Hp}{kds:List (Key×D)}{S:AS}(t:Ow K G H v (Tn.of (.dic kds)) S):∃a kvs,v= .ref a∧S a∧H a=some (.dK kvs)∧kvs.map (·.1)=kds.map (·.1)∧HasL K G (kvs.map (·.2)) (kds.map (·.2)):=by
 generalize e:Tn.of (.dic kds)=t' at t;cases t with
 |dic h hk ha sub r=>
  injection e with e
  subst e;rw [cu_7] at r;rw [ch_8] at hk;exact⟨_,_,rfl,ha,h,hk,r.off⟩
 |_=>cases e
structure Step(G H G' H':Hp):Prop where
 hh:Same H H'
 gh:Same G' H'
 gg:Same G G'
 nw:∀b,G b=none→H b≠none→G' b=none
theorem Step.refl{G H:Hp}(h:Same G H):Step G H G H:=⟨Same.refl _,h,Same.refl _,fun _ e _=>e⟩
theorem Step.trans{G H G1 H1 G2 H2:Hp}(a:Step G H G1 H1)(b:Step G1 H1 G2 H2):Step G H G2 H2:=
 ⟨a.hh.trans b.hh,b.gh,a.gg.trans b.gg,fun c e n=>b.nw c (a.nw c e n) fun z=>n (a.hh.free z)⟩
theorem l_1{p:Addr}(h:H p=none)(o:HO):Same H (upd H p o):=fun b u q=>by rw [b_0 (d_5 q h)];exact q
theorem cu_8{G H:Hp}(h:Same G H)(p:Addr)(o:HO):Same (upd G p o) (upd H p o):=fun b u q=>by
 by_cases e:b=p
 ·subst e;rw [b_3] at q⊢;exact q
 ·rw [b_0 e] at q⊢;exact h b u q
theorem Step.new{G H:Hp}(h:Same G H){p:Addr}(e:H p=none)(o:HO):Step G H (L2.upd G p o) (L2.upd H p o):=
 ⟨l_1 e o,cu_8 h p o,l_1 (h.free e) o,fun b n z=>by
  by_cases q:b=p
  ·subst q;exact absurd e z
  ·rw [b_0 q];exact n⟩
theorem Step.own{G H:Hp}(h:Same G H){p:Addr}(e:H p=none)(o:HO):Step G H G (L2.upd H p o):=
 ⟨l_1 e o,h.trans (l_1 e o),Same.refl _,fun _ n _=>n⟩
open Classical in
def q_1(G H:Hp)(S:AS):Hp:=fun b=>if S b then H b else G b
def WP(K:Frag)(G H:Hp)(w:W)(Q:VK):Prop:=match w with
 | .sh d=>∀v G' H',Step G H G' H'→Has K G' v d→Q v H'
 | .ow d=>∀v S G' H',Step G H G' H'→(∀a,S a→H a=none∧G' a=none∧H' a≠none)→Ow K G' H' v (Tn.of d) S→Q v H'
 | .tr t=>∀v S G' H',Step G H G' H'→(∀a,S a→H a=none∧G' a=none∧H' a≠none)→Ow K G' H' v t S→Q v H'
structure EXT where
 p:Xn→Hp→Hp→Prop
 mono:∀x G H G' H',Step G H G' H'→p x G H→p x G' H'
def EX0:EXT:=⟨fun _ _ _=>False,fun _ _ _ _ _ _ h=>h⟩
abbrev EXS:=Sg→EXT
def q_8:EXS:=fun _=>EX0
def Out(K:Frag)(EX:EXT)(G H:Hp)(r:R W)(Q:VK):Prop:=match r with
 | .ok w=>WP K G H w Q
 | .ex x=>EX.p x G H
 | .no=>False
section
variable{K:Frag}{EX:EXT}{G H G' H':Hp}{Q Q':VK}{w:W}
theorem WP.mono(s:Step G H G' H')(h:WP K G H w Q):WP K G' H' w Q:=by
 cases w with
 |sh d=>exact fun v G2 H2 s2 r=>h v G2 H2 (s.trans s2) r
 |ow d=>exact fun v S G2 H2 s2 fr t=>h v S G2 H2 (s.trans s2) (fun a ha=>⟨s.hh.free (fr a ha).1,(fr a ha).2⟩) t
 |tr d=>exact fun v S G2 H2 s2 fr t=>h v S G2 H2 (s.trans s2) (fun a ha=>⟨s.hh.free (fr a ha).1,(fr a ha).2⟩) t
theorem Out.mono{r:R W}(s:Step G H G' H')(h:Out K EX G H r Q):Out K EX G' H' r Q:=by
 cases r with
 |ok w=>exact WP.mono s h
 |ex x=>exact EX.mono _ _ _ _ _ s h
 |no=>exact h
theorem WP.join{t:Tn}{S:AS}(h:∀v G' H',Step G H G' H'→Has K G' v t.d→Q v H')(s:Step G H G' H')(fr:∀a,S a→H a=none∧G' a=none∧H' a≠none)(t:Ow K G' H' v t S):Q v H':=by
 have sg:Same G' (q_1 G' H' S):=fun b o q=>by
  unfold q_1
  split
  ·rename_i hb;rw [(fr b hb).2.1] at q;cases q
  ·exact q
 refine h v (q_1 G' H' S) H' ⟨s.hh,fun b o q=> ?_,s.gg.trans sg,fun b n z=> ?_⟩ (t.has sg fun b o hb q=> ?_)
 ·unfold q_1 at q
  split at q
  ·exact q
  ·exact s.gh b o q
 ·unfold q_1
  split
  ·rename_i hb;exact absurd (fr b hb).1 z
  ·exact s.nw b n z
 ·unfold q_1;rw [if_pos hb];exact q
theorem WP.intro(h:∀v G' H',Step G H G' H'→Has K G' v w.d→Q v H'):WP K G H w Q:=by
 cases w with
 |sh d=>exact h
 |ow d=>exact fun v S G' H' s fr t=>WP.join (t:=Tn.of d) (by rw [Tn.of_d];exact h) s fr t
 |tr d=>exact fun v S G' H' s fr t=>WP.join h s fr t
theorem WP.sh(h:WP K G H (.sh w.d) Q):WP K G H w Q:=WP.intro h
theorem WP.use{d:D}(h:WP K G H (.sh d) Q)(s:Same G H)(r:Has K G v d):Q v H:=h v G H (Step.refl s) r
end
inductive ExcAt(K:Frag)(G:Hp):Value→Option Addr→Xn→Prop where
 |bare {C:Addr} {c:Str} (hc:ClsAt K c C):ExcAt K G (.ref C) none ⟨c, [], []⟩
 |with_ {C d:Addr} {c:Str} {ns:List Str} {us:List V} {vs:List D} (hc:ClsAt K c C) (hd:G d=some (.xd (ns.zip us))) (hl:ns.length=us.length) (r:HasL K G us vs):ExcAt K G (.ref C) (some d) ⟨c,ns,vs⟩
def EXof(K:Frag)(E:XK):EXT:=⟨fun x G H=>∀cls dx G' H',Step G H G' H'→ExcAt K G' cls dx x→E cls dx H',fun _ _ _ _ _ s h cls dx G2 H2 s2=>h cls dx G2 H2 (s.trans s2)⟩
def EXE(K:Frag)(EX:EXT):XK:=fun cls dx H=>∃x G,Same G H∧ExcAt K G cls dx x∧EX.p x G H
theorem EXE.of{E:XK}{cls:Value}{dx:Option Addr}(h:EXE K (EXof K E) cls dx H):E cls dx H:=by
 obtain⟨x,G,s,e,q⟩:=h;exact q cls dx G H (Step.refl s) e
theorem EXof.in{EX:EXT}{G H:Hp}{x:Xn}(q:EX.p x G H):(EXof K (EXE K EX)).p x G H:=fun _ _ G' H' st e=>⟨x,G',st.gh,e,EX.mono _ _ _ _ _ st q⟩
abbrev DE:=List (Option D)
abbrev FE:=DE→R W
abbrev FT:=DE→R Bool
abbrev FA:=DE→R (List D)
structure HasS(K:Frag)(G:Hp)(σ:Sg)(δ:DE):Prop where
 len:σ.length=δ.length
 get:∀(i:Nat) (d:D),δ[i]? =some (some d)→∃v,σ[i]? =some (some v)∧Has K G v d
theorem HasS.mono{G G':Hp}{σ:Sg}{δ:DE}(e:Same G G')(h:HasS K G σ δ):HasS K G' σ δ:=⟨h.len,fun i d q=>by
 obtain⟨v,e1,r⟩:=h.get i d q;exact⟨v,e1,r.mono e⟩⟩
def tD(K:Frag)(EX:EXS)(f:FE):TE:=fun σ H Q=>∃G δ,Same G H∧HasS K G σ δ∧Out K (EX σ) G H (f δ) Q
def tDt(K:Frag)(EX:EXS)(f:FT):TT:=fun σ H Q=>∃G δ,Same G H∧HasS K G σ δ∧match f δ with
 | .ok b=>∀G' H',Step G H G' H'→Q b H'
 | .ex x=>(EX σ).p x G H
 | .no=>False
def tDa(K:Frag)(EX:EXS)(f:FA):TA:=fun σ H Q=>∃G δ,Same G H∧HasS K G σ δ∧match f δ with
 | .ok ds=>∀vs G' H',Step G H G' H'→HasL K G' vs ds→Q vs H'
 | .ex x=>(EX σ).p x G H
 | .no=>False
abbrev ED(X:Cx)(EX:EXS)(e:Expr)(f:FE):Prop:=PE X e (tD X.K EX f)
abbrev TD(X:Cx)(EX:EXS)(e:Expr)(f:FT):Prop:=PT X e (tDt X.K EX f)
abbrev AD(X:Cx)(EX:EXS)(es:List Expr)(f:FA):Prop:=PA X es (tDa X.K EX f)
theorem PE.imp{e:Expr}{t t':TE}(h:PE X e t)(i:∀σ H Q,t' σ H Q→t σ H Q):PE X e t':=fun zc s σ H Q I q=>h zc s σ H Q I (i σ H Q q)
theorem PT.imp{e:Expr}{t t':TT}(h:PT X e t)(i:∀σ H Q,t' σ H Q→t σ H Q):PT X e t':=fun zc s σ H Q I q=>h zc s σ H Q I (i σ H Q q)
theorem PW.imp{e:Expr}{t t':TT}(h:PW X e t)(i:∀σ H Q,t' σ H Q→t σ H Q):PW X e t':=fun wh zc s σ H Q I q=>h wh zc s σ H Q I (i σ H Q q)
theorem PA.imp{e:List Expr}{t t':TA}(h:PA X e t)(i:∀σ H Q,t' σ H Q→t σ H Q):PA X e t':=fun pos zc s σ H Q I q=>h pos zc s σ H Q I (i σ H Q q)
theorem PS.imp{e:Stmt}{t t':TS}(h:PS X e t)(i:∀D σ H,t' D σ H→t D σ H):PS X e t':=fun zc s σ H D I q=>h zc s σ H D I (i D σ H q)
theorem PSs.imp{e:List Stmt}{t t':TS}(h:PSs X e t)(i:∀D σ H,t' D σ H→t D σ H):PSs X e t':=fun zc s σ H D I q=>h zc s σ H D I (i D σ H q)
section
variable{K:Frag}{EX:EXS}{G H:Hp}{σ:Sg}{δ:DE}{Q:VK}
theorem tD.seq{f:FE}{k:W→R W}{P:VK}(g:Same G H)(s:HasS K G σ δ)(h:Out K (EX σ) G H ((f δ).bind k) Q)
  (i:∀w v G' H',f δ= .ok w→Step G H G' H'→Has K G' v w.d→Out K (EX σ) G' H' (k w) Q→P v H'):tD K EX f σ H P:=by
 refine⟨G,δ,g,s, ?_⟩;cases e:f δ with
 |ok w=>
  rw [e] at h;exact WP.intro fun v G' H' st r=>i w v G' H' e st r (Out.mono st h)
 |ex x=>rw [e] at h;exact h
 |no=>rw [e] at h;exact h
theorem tDt.seq{f:FT}{k:Bool→R W}{P:Bool→Hp→Prop}(g:Same G H)(s:HasS K G σ δ)(h:Out K (EX σ) G H ((f δ).bind k) Q)
  (i:∀b G' H',f δ= .ok b→Step G H G' H'→Out K (EX σ) G' H' (k b) Q→P b H'):tDt K EX f σ H P:=by
 refine⟨G,δ,g,s, ?_⟩;cases e:f δ with
 |ok w=>
  rw [e] at h;exact fun G' H' st=>i w G' H' e st (Out.mono st h)
 |ex x=>rw [e] at h;exact h
 |no=>rw [e] at h;exact h
theorem tDa.seq{f:FA}{k:List D→R W}{P:List V→Hp→Prop}(g:Same G H)(s:HasS K G σ δ)(h:Out K (EX σ) G H ((f δ).bind k) Q)
  (i:∀ds vs G' H',f δ= .ok ds→Step G H G' H'→HasL K G' vs ds→Out K (EX σ) G' H' (k ds) Q→P vs H'):tDa K EX f σ H P:=by
 refine⟨G,δ,g,s, ?_⟩;cases e:f δ with
 |ok w=>
  rw [e] at h;exact fun vs G' H' st r=>i w vs G' H' e st r (Out.mono st h)
 |ex x=>rw [e] at h;exact h
 |no=>rw [e] at h;exact h
end
theorem w_7{EX:EXT}{G H:Hp}{Q:VK}{ds:List D}(o:Out K EX G H (.ok (.ow (.lst ds))) Q)(g:Same G H)(r:HasL K G vs ds):∀p,H p=none→Q (.ref p) (upd H p (.lst vs)):=
 fun p hp=>o (.ref p) (fun b=>b=p) G _ (Step.own g hp _) (fun a e=>by subst e;exact⟨hp,g.free hp,by rw [b_3];simp⟩) (.list b_3 rfl r)
end L3
namespace L3
open PySem PySem.Spec PyProof.Rows L2
variable{K:Frag}{fd:FuncData}{mg:Str→Option Value}{P:Program}{vs:List V}{us:List Value}{base:Heap}{H:Hp}{X:Cx}{pos:Pos}{v:V}
structure Tr(h:Heap)(a C:Addr)(dx:Option Addr)(fl:Value)(T:Addr):Prop where
 ob:∃o us,h.get? a=some o∧o.cls= .ref C∧o.dict=dx∧o.data= .fields us∧us[1]? =some (.ref T)
 ne:T≠a
 tb:∃o us,h.get? T=some o∧o.data= .fields us∧us[3]? =some fl
structure KeepX(xs fr:List Addr)(h h':Heap):Prop where
 same:∀b o,b∉xs→b∉fr→h.get? b=some o→h'.get? b=some o
 slot:∀b o,b∉xs→h.get? b=some o→∃sl,h'.get? b=some {o with slots:=sl}
theorem KeepX.trans{xs ys fr:List Addr}{h1 h2 h3:Heap}(a:KeepX xs fr h1 h2)(b:KeepX ys fr h2 h3):KeepX (xs ++ ys) fr h1 h3:=
 ⟨fun c o n m e=>b.same c o (fun z=>n (List.mem_append_right _ z)) m (a.same c o (fun z=>n (List.mem_append_left _ z)) m e),fun c o n e=>by
  obtain⟨sl,e1⟩:=a.slot c o (fun z=>n (List.mem_append_left _ z)) e;obtain⟨sl',e2⟩:=b.slot c _ (fun z=>n (List.mem_append_right _ z)) e1;exact⟨sl',e2⟩⟩
theorem KeepX.of_same{xs fr:List Addr}{h h':Heap}(k:∀b o,b∉xs→h.get? b=some o→h'.get? b=some o):KeepX xs fr h h':=
 ⟨fun b o n _ e=>k b o n e,fun b o n e=>⟨o.slots,k b o n e⟩⟩
theorem cu_9(o:Obj)(f:Array Value→Array Value):(o.mapFields f).dict=o.dict:=by
 obtain⟨c,d,dt,sl⟩:=o;cases dt <;> rfl
section
variable{M:Model}{A:Around}{E:Value→Shared→Prop}{s:Shared}{env:Env}{outer:List Env}{base:Heap}{L a C:Addr}{dx:Option Addr}{Q:Unit→Shared→Prop}
theorem ch_9{o:Obj}{us:Array Value}{head:Value}{b:Bool}(hfr:A.frames=some (env::outer))(hl:s.heap.FunFrames base (env::outer))(hf:env.frame=some L)
  (he:s.heap.get? a=some o) (hc:o.cls= .ref C) (hx:o.dict=dx) (hd:o.data= .fields us) (hz:1 < us.size)
  (h:∀h' T,s.heap.objs.size≤T→KeepX [a] (frs (env::outer)) s.heap h'→Tr h' a C dx (rawInt L) T→Q () {s with heap:=h'}):
  wpAny M A (do let fv←frameOf env;let pl←entryPlaceOf L b;let en←EntryCells.newEntry head fv .none (rawInt L) .none pl;setField (.ref a) 1 en) Q E s:=by
 have nfr:a∉frs (env::outer):=fun hm=>by
  obtain⟨_,u,hu,hn⟩:=hl.mem hm;rw [he] at hu;cases hu;exact hn us hd
 refine wpAny_bind (wpAny_frameOf_fun hfr hl hf fun h1 so=> ?_);refine wpAny_bind (wpAny_entryPlaceOf fun pl hpl=> ?_);unfold EntryCells.newEntry newFields;refine wpAny_bind (wpAny_newObj_type ?_ (hpl.sizeOk5 _ _ _ _ _));have e1:h1.get? a=some o:=(so.2.1 a nfr).trans he;generalize hT:({cls:= .type "traceback",dict:=none,data:= .fields ([head, .ref L, .none,rawInt L, .none] ++ (if pl.isEmpty then List.replicate 6 Value.none else pl)).toArray}:Obj)=oT;have eT:oT.data= .fields ([head, .ref L, .none,rawInt L, .none] ++ (if pl.isEmpty then List.replicate 6 Value.none else pl)).toArray:=by rw [←hT]
 have e2:(h1.push oT).get? a=some o:=Heap.get?_push_of_some oT e1;refine wpAny_setField e2 hd hz ?_;have sz:h1.objs.size=s.heap.objs.size:=so.1;have ltA:a < s.heap.objs.size:=Heap.lt_size he;have neT:h1.objs.size≠a:=fun z=>absurd ltA (by rw [←z,sz];exact Nat.lt_irrefl _);have d3:=Obj.data_mapFields hd (·.setIfInBounds 1 (Value.ref h1.objs.size));refine h _ h1.objs.size (by rw [sz];exact Nat.le_refl _) ⟨fun b u n m e=> ?_,fun b u n e=> ?_⟩ ⟨⟨_,_,Heap.get?_update_self _ e2 (Obj.isFreed_of_fields d3),(Obj.cls_mapFields _ _).trans hc,(cu_9 _ _).trans hx,d3, ?_⟩,neT,⟨oT,_, ?_,eT, ?_⟩⟩
 ·have nb:a≠b:=fun z=>n (by simp [z]);rw [Heap.get?_update_other _ _ nb];exact Heap.get?_push_of_some oT ((so.2.1 b m).trans e)
 ·have nb:a≠b:=fun z=>n (by simp [z]);obtain⟨sl,es⟩:=so.2.2 b u e;exact⟨sl,by rw [Heap.get?_update_other _ _ nb];exact Heap.get?_push_of_some oT es⟩
 ·simp [hz]
 ·rw [Heap.get?_update_other _ _ (Ne.symm neT)];exact Heap.get?_push_size h1 (Obj.isFreed_of_fields eT)
 ·first|(simp;done)|(rcases hpl with rfl|⟨_,_,_,_,_,_,_,rfl⟩ <;> simp)
theorem cc_6{o:Obj}{us:Array Value}(hfr:A.frames=some (env::outer))(hl:s.heap.FunFrames base (env::outer))(hf:env.frame=some L)
  (he:s.heap.get? a=some o) (hc:o.cls= .ref C) (hx:o.dict=dx) (hd:o.data= .fields us) (h1:us[1]? =some .none)
  (h:∀h' T,s.heap.objs.size≤T→KeepX [a] (frs (env::outer)) s.heap h'→Tr h' a C dx (rawInt L) T→Q () {s with heap:=h'}):wpAny M A (noteFrame (.ref a) env) Q E s:=by
 unfold noteFrame;simp only [hf];refine wpAny_bind (wpAny_field he hd h1 ?_);rw [if_neg (by decide)];exact ch_9 hfr hl hf he hc hx hd (Array.getElem?_eq_some_iff.mp h1).1 h
theorem bg_0{T0:Addr}(hfr:A.frames=some (env::outer))(hl:s.heap.FunFrames base (env::outer))(hf:env.frame=some L)(t:Tr s.heap a C dx .none T0)
  (h:∀h' T,s.heap.objs.size≤T→KeepX [a,T0] (frs (env::outer)) s.heap h'→Tr h' a C dx (rawInt L) T→Q () {s with heap:=h'}):wpAny M A (noteFrame (.ref a) env) Q E s:=by
 obtain⟨⟨o,us,he,hc,hx,hd,h1⟩,ne,⟨oT,ws,hT,hdT,h3⟩⟩:=t;unfold noteFrame;simp only [hf];refine wpAny_bind (wpAny_field he hd h1 ?_);rw [if_pos (show(Value.ref T0 != Value.none)=true from by simp)];refine wpAny_bind (wpAny_field hT hdT h3 ?_);rw [if_neg (show¬((Value.none ==rawInt L)=true) from by simp [rawInt])];refine wpAny_bind (wpAny_setField hT hdT (Array.getElem?_eq_some_iff.mp h3).1 ?_);have oth:∀b,b≠T0→(s.heap.update T0 (Obj.mapFields (·.setIfInBounds 3 Value.none))).get? b=s.heap.get? b:=fun b hb=>Heap.get?_update_other _ _ (Ne.symm hb);have gb:∀b u,s.heap.get? b=some u→(∀zs,u.data≠ .fields zs)→b≠T0:=fun b u hb hn q=>by
  subst q;rw [hT] at hb;cases hb;exact hn ws hdT
 refine ch_9 (s:={s with heap:=s.heap.update T0 (Obj.mapFields (·.setIfInBounds 3 Value.none))}) hfr (hl.of_keeps fun b u hb hn=>⟨u,(oth b (gb b u hb hn)).trans hb,rfl⟩) hf ((oth a (Ne.symm ne)).trans he) hc hx hd (Array.getElem?_eq_some_iff.mp h1).1 fun h' T n k tr=>h h' T ?_ ?_ tr
 ·have zz:(s.heap.update T0 (Obj.mapFields (·.setIfInBounds 3 Value.none))).objs.size=s.heap.objs.size:=Heap.size_update _ _ _;rw [←zz];exact n
 ·have na:∀b,b∉ [a,T0]→b∉ [a]:=fun b nb z=>nb (by rw [List.mem_singleton.mp z];exact List.mem_cons_self);have nT:∀b,b∉ [a,T0]→b≠T0:=fun b nb z=>nb (by rw [z];simp);exact⟨fun b u nb m e=>k.same b u (na b nb) m ((oth b (nT b nb)).trans e),fun b u nb e=>k.slot b u (na b nb) ((oth b (nT b nb)).trans e)⟩
theorem w_8{T:Addr}{fl:Value}(t:Tr s.heap a C dx fl T)(h:∀h',(∀b o,b∉ [T]→s.heap.get? b=some o→h'.get? b=some o)→Tr h' a C dx .none T→Q () {s with heap:=h'}):wpAny M A (setFlight (.ref a) none) Q E s:=by
 obtain⟨⟨o,us,he,hc,hx,hd,h1⟩,ne,⟨oT,ws,hT,hdT,h3⟩⟩:=t;have sz3:3 < ws.size:=(Array.getElem?_eq_some_iff.mp h3).1;unfold setFlight;refine wpAny_bind (wpAny_field he hd h1 ?_);rw [if_pos (show(Value.ref T != Value.none)=true from by simp)];refine wpAny_setField hT hdT sz3 (h _ (fun b u n e=> ?_) ⟨⟨o,us, ?_,hc,hx,hd,h1⟩,ne,⟨_,_,Heap.get?_update_self _ hT (Obj.isFreed_of_fields (Obj.data_mapFields hdT _)),Obj.data_mapFields hdT _, ?_⟩⟩)
 ·rw [Heap.get?_update_other _ _ (fun z=>n (by simp [z]))];exact e
 ·rw [Heap.get?_update_other _ _ ne];exact he
 ·simp [sz3]
end
def CXr(P:Program)(w:World):CXT:=fun outer H s E e s'=>∃a C dx T H',e= .ref a∧s'.os=s.os∧AllBare s'.gens∧Un (frs outer) [] H H' s.heap s'.heap∧HOk P w H' s'.heap∧
 Tr s'.heap a C dx .none T∧H' a=none∧H' T=none∧s.heap.objs.size≤a∧s.heap.objs.size≤T∧E (.ref C) dx H'
section
variable{X:Cx}{zc:List (Addr×Obj)}{σ:Sg}{H H':Hp}{s s':Shared}
theorem Inv.settle{ch:List Addr}{h2:Heap}(I:Inv X zc σ H s)(I':Inv X zc σ H' s')(n:∀b∈ch,s.heap.objs.size≤b∧H' b=none)(k:KeepX ch (frs X.stack) s'.heap h2):Inv X zc σ H' {s' with heap:=h2}:=by
 have trk:∀b u,H' b=some u→b∉ch∧b∉frs X.stack:=fun b u e=>⟨fun z=>(by rw [(n b z).2] at e;cases e),fun z=>(by rw [I'.stkFree b z] at e;cases e)⟩;refine I'.step (g':=s'.gens) (d':=s'.drawn) (t':=s'.toks) (ch:=ch) (fun b hb=> ?_) (fun b o h1 h2 h3 e _=>k.same b o h3 (fun z=> ?_) e) (fun b o _ _ h3 e _=>k.slot b o h3 e) (fun _ _ _ _ z=>z) (fun b o h3 e=> ?_) (fun _ _ z=>z) (fun _ _ _ z=>z) (fun b ps z=>⟨#[],by rw [z];simp⟩) (fun m hm=> ?_) (fun b u e=> ?_) I'.bare
 ·have lb:=(n b hb).1;refine⟨.inr (Nat.le_trans I.sz lb),fun z=> ?_,fun x c e z=> ?_,fun p hp z=> ?_⟩
  ·exact absurd (Nat.lt_of_lt_of_le I.lt lb) (by rw [z];exact Nat.lt_irrefl _)
  ·obtain⟨v,hv⟩:=I.cell x c e;exact absurd (Nat.lt_of_lt_of_le hv.lt lb) (by rw [z];exact Nat.lt_irrefl _)
  ·exact absurd (Nat.lt_of_lt_of_le (Heap.lt_size (I.pin p hp).1) lb) (by rw [z];exact Nat.lt_irrefl _)
 ·rcases List.mem_cons.mp (I'.stkSub b z) with z|z
  ·exact h1 z
  ·exact h2 z
 ·obtain⟨sl,q⟩:=k.slot b o h3 e;exact⟨_,q⟩
 ·obtain⟨o,es,ep,ho,r⟩:=hm;have nl:X.env.locals∉ch:=fun z=>absurd (Nat.lt_of_lt_of_le I.lt (n _ z).1) (Nat.lt_irrefl _);obtain⟨sl,q⟩:=k.slot _ o nl ho;exact⟨_,es,ep,q,r⟩
 ·refine(I'.hok b u e).stay (fun c v hc q=> ?_) (fun _ z=>z) fun _ _ z=>z;rcases hc with rfl|hc
  ·exact k.same c v (trk c u e).1 (trk c u e).2 q
  ·exact k.same c v (trk c _ hc).1 (trk c _ hc).2 q
theorem Inv.raised{E:XK}{e:Value}(I:Inv X zc σ H s)(c:CXr X.prog X.w X.stack H s E e s'):∃a C dx T H',e= .ref a∧Inv X zc σ H' s'∧Tr s'.heap a C dx .none T∧H' a=none∧H' T=none∧s.heap.objs.size≤a∧s.heap.objs.size≤T∧E (.ref C) dx H':=by
 obtain⟨a,C,dx,T,H',e1,os,br,un,hok,tr,n1,n2,z1,z2,q⟩:=c;exact⟨a,C,dx,T,H',e1,I.call' (ch:= []) os un hok br (fun b z=>absurd z (by simp)),tr,n1,n2,z1,z2,q⟩
end
section
variable{cm:Bool}{P:Program}{w:World}{K:Frag}{mg:Str→Option Value}{base:Heap}{N:List Str}{qual:Str}{scope:Scope}{f:Addr}{cd:Value}{A:Around}{outer:List Env}{s0:Shared}{H0:Hp}{E E':XK}
theorem cn_8{zc:List (Addr×Obj)}{σ:Sg}{s s':Shared}{e:Value}(I:Inv ({cxOf (CXr P w) P w K mg base N qual scope f cd A outer s0 H0 E with calm:=cm}:Cx) zc σ H s)
  (c:CXr P w ({cxOf (CXr P w) P w K mg base N qual scope f cd A outer s0 H0 E with calm:=cm}:Cx).stack H s E' e s') (i:∀cls dx H',E' cls dx H'→E cls dx H'):({cxOf (CXr P w) P w K mg base N qual scope f cd A outer s0 H0 E with calm:=cm}:Cx).xe e s':=by
 obtain⟨a,C,dx,T,H',rfl,I',tr,n1,n2,z1,z2,q⟩:=Inv.raised I c;show wpAny (model P w) _ (leaving _ _) _ _ s';unfold leaving;refine wpAny_bind (bg_0 I'.ok.frames I'.stack rfl tr fun h1 T2 z3 k1 t1=> ?_);refine w_8 t1 fun h2 k2 t2=> ?_;have zT2:H' T2=none:=I'.hok.fresh z3;have J:Inv ({cxOf (CXr P w) P w K mg base N qual scope f cd A outer s0 H0 E with calm:=cm}:Cx) zc σ H' {s' with heap:=h2}:=by
  refine Inv.settle (ch:= [a,T] ++ [T2]) I I' (fun b hb=> ?_) (k1.trans (KeepX.of_same k2));have:b=a∨b=T∨b=T2:=by simpa using hb
  rcases this with rfl|rfl|rfl
  ·exact⟨z1,n1⟩
  ·exact⟨z2,n2⟩
  ·exact⟨Nat.le_trans (Nat.le_trans (Nat.le_refl _) z1) (Nat.le_trans (Nat.le_of_lt (Heap.lt_size tr.ob.choose_spec.choose_spec.1)) z3),zT2⟩
 exact⟨a,C,dx,T2,H',rfl,J.os,J.bare,J.base,J.hok,t2,n1,zT2,Nat.le_trans I.sz z1,Nat.le_trans I'.sz z3,i _ _ _ q⟩
theorem bl_0{zc:List (Addr×Obj)}{σ:Sg}{H H':Hp}{s s':Shared}{a C:Addr}{dx:Option Addr}{o:Obj}{us:Array Value}(I:Inv ({cxOf (CXr P w) P w K mg base N qual scope f cd A outer s0 H0 E with calm:=cm}:Cx) zc σ H s)
  (I':Inv ({cxOf (CXr P w) P w K mg base N qual scope f cd A outer s0 H0 E with calm:=cm}:Cx) zc σ H' s') (he:s'.heap.get? a=some o) (hc:o.cls= .ref C) (hx:o.dict=dx) (hd:o.data= .fields us) (h1:us[1]? =some .none) (n1:H' a=none) (z1:s.heap.objs.size≤a) (q:E (.ref C) dx H'):
  ({cxOf (CXr P w) P w K mg base N qual scope f cd A outer s0 H0 E with calm:=cm}:Cx).xe (.ref a) s':=by
 show wpAny (model P w) _ (leaving _ _) _ _ s';unfold leaving;refine wpAny_bind (cc_6 I'.ok.frames I'.stack rfl he hc hx hd h1 fun h1 T2 z3 k1 t1=> ?_);refine w_8 t1 fun h2 k2 t2=> ?_;have zT2:H' T2=none:=I'.hok.fresh z3;have J:Inv ({cxOf (CXr P w) P w K mg base N qual scope f cd A outer s0 H0 E with calm:=cm}:Cx) zc σ H' {s' with heap:=h2}:=by
  refine Inv.settle (ch:= [a] ++ [T2]) I I' (fun b hb=> ?_) (k1.trans (KeepX.of_same k2));have:b=a∨b=T2:=by simpa using hb
  rcases this with rfl|rfl
  ·exact⟨z1,n1⟩
  ·exact⟨Nat.le_trans z1 (Nat.le_trans (Nat.le_of_lt (Heap.lt_size he)) z3),zT2⟩
 exact⟨a,C,dx,T2,H',rfl,J.os,J.bare,J.base,J.hok,t2,n1,zT2,Nat.le_trans I.sz z1,Nat.le_trans I'.sz z3,q⟩
end
section
variable{prog:Program}{w:World}{A:Around}{E:Value→Shared→Prop}{h:Heap}{g:Array GenState}{d:Drawn}{t:Nat}{os:OsState}
variable{nm q:Str}{C N:Addr}{bs bm bmB:List Value}{bc:Bool}{sn:List Str}{sub:List Value}{ab:Bool}{col:Option Bool}{dd:Option Addr}{k0 k1 k2 k3 k5:Option Value}{B newId ah:String}
theorem cn_9(FB:ExcBaseFacts B newId ah bmB)(T:OwnTail h bmB bm){mN:Str→Option Value}{fI:Addr}{oI:Obj}{Q:PySem.Fin→Shared→Prop}
  (hC:h.get? C=some (excClassObj nm q C N bs bm bc sn sub ab col dd k0 k1 k2 k3 k5 newId)) (hn:h.Ns N mN) (hi:mN "__init__" =some (.ref fI)) (ho:h.get? fI=some oI) (hf:oI.cls= .type "function")
  (z:∀h' e,Heap.MadeExcOf h h' e (.ref C) us→h.objs.size≤e→wpAny (model prog w) A (call (.ref fI) (.ref e::us)) (fun r s'=>r= .none∧Q (.done (.ret (.ref e))) s') E ⟨h',g,d,t,os⟩) (hu:us.length≤sizeLine):
  wpAny (model prog w) A (Builtin.«type.__call__» ⟨.ref C::us, []⟩) Q E ⟨h,g,d,t,os⟩:=by
 wp_walk using wpAny_loadPart_at hC,wpAny_madeBy_exc hC
 refine codeAny_call_builtin_code (Code.quiet_builtin _ FB.quiet) (wpAny_check_new_subT FB T hC ?_);refine codeAny_exc_new_subT FB T hC ?_ hu;show wpAny _ _ _ _ _ _;generalize e1:({cls:= .type "tuple",data:= .seq us.toArray}:Obj)=o1;generalize e2:({cls:= .ref C,data:= .fields #[.ref h.objs.size, .none, .none, .none, .bool false, .none]}:Obj)=o2;have up:∀b o,h.get? b=some o→((h.push o1).push o2).get? b=some o:=fun b o e=>Heap.get?_push_of_some _ (Heap.get?_push_of_some _ e);have ge:((h.push o1).push o2).get? (h.objs.size + 1)=some o2:=by
  have:=Heap.get?_push_size (h.push o1) (o:=o2) (by rw [←e2];rfl)
  rwa [Heap.size_push] at this
 have gt:((h.push o1).push o2).get? h.objs.size=some o1:=Heap.get?_push_of_some _ (Heap.get?_push_size h (by rw [←e1];rfl));have hC1:=up _ _ hC;have hn1:((h.push o1).push o2).Ns N mN:=hn.keeps up;have cl:o2.cls= .ref C:=by rw [←e2]
 have hcC:List.contains (Value.ref C::bm) (.ref C)=true:=List.contains_iff_mem.mpr (.head _);unfold isInstance
 repeat (first|(with_reducible refine wpAny_loadPart_at ge ?_;rw [cl])|(with_reducible refine wpAny_isSubtype_exc hC1 ?_;rw [hcC])|wp_step)
 change wpAny _ _ (mroOf (.ref C) >>=fun l=>lookupAlong l _) _ _ _;refine wpAny_bind (wpAny_mroOf_exc hC1 ?_);rw [lookupAlong_cons];refine wpAny_bind (wpAny_classOwn_exc hC1 hn1 ?_);rw [hi];refine wpAny_pure (wpAny_holding (wpAny_bind ?_));unfold bindSpecial;refine wpAny_bind (wpAny_typeOf (T:= "function") ⟨_,up _ _ ho,hf⟩ ?_);rw [if_pos (by decide)];refine wpAny_pure (wpAny_bind (wpAny_mono (z _ (h.objs.size + 1) ⟨up,Heap.get?_none_of_le (Nat.le_succ _),h.objs.size,by rw [e2];exact ge,Heap.get?_none_of_le (Nat.le_refl _),by rw [e1];exact gt⟩ (Nat.le_succ _)) (fun r s' hr=> ?_) fun _ _ x=>x));obtain⟨rfl,hQ⟩:=hr
 wp_walk
 exact hQ
theorem cv_0(FB:ExcBaseFacts B newId ah bmB)(T:OwnTail h bmB bm){mN:Str→Option Value}{fI:Addr}{oI:Obj}{Q:Value→Shared→Prop}
  (hC:h.get? C=some (excClassObj nm q C N bs bm bc sn sub ab col dd k0 k1 k2 k3 k5 newId)) (hn:h.Ns N mN) (hi:mN "__init__" =some (.ref fI)) (ho:h.get? fI=some oI) (hf:oI.cls= .type "function")
  (z:∀h' e,Heap.MadeExcOf h h' e (.ref C) us→h.objs.size≤e→wpAny (model prog w) (A.under (.builtin "type.__call__" ⟨.ref C::us, []⟩)) (call (.ref fI) (.ref e::us)) (fun r s'=>r= .none∧Q (.ref e) s') E ⟨h',g,d,t,os⟩) (hu:us.length≤sizeLine):
  wpAny (model prog w) A (call (.ref C) us) Q E ⟨h,g,d,t,os⟩:=by
 have f1:=tc_lookup;have f2:=tc_bind (.ref C);have isT:Shared.TypeIs ⟨h,g,d,t,os⟩ (.ref C) "type" :=⟨_,hC,rfl⟩;refine wpAny_call (codeAny_of_tree (?_:wpAny _ _ (callAny (.ref C) _) _ _ _))
 wp_walk using wpAny_loadPart_at hC
 refine⟨rfl, ?_⟩;exact codeAny_call_builtin_at (Code.quiet_builtin _ (by decide +kernel)) entry_typeCall (wpAny_check_type_call_sub hC (cn_9 FB T hC hn hi ho hf (fun h' e hm hz=>z h' e hm hz) hu))
theorem bg_1{M:Model}{env:Env}{s:Shared}{x:Sem Value}{Q:Flow→Shared→Prop}(hb:bm.contains (.type "BaseException")=true)(hh:A.handled=none)
  (z:wpAny M A x (fun v s1=>∃e t dx,v= .ref e∧s1.heap.get? C=some (excClassObj nm q C N bs bm bc sn sub ab col dd k0 k1 k2 k3 k5 newId)∧
   s1.heap.get? e=some {cls:= .ref C,dict:=dx,data:= .fields #[.ref t, .none, .none, .none, .bool false, .none]}∧E (.ref e) s1) E s):wpAny M A (raiseStmt env (some x) none) Q E s:=by
 have hcB:(Value.ref C::bm).contains (.type "BaseException")=true:=by rw [List.contains_cons,hb,Bool.or_true]
 unfold raiseStmt;refine wpAny_bind (wpAny_mono z (fun v s1 z1=> ?_) fun _ _ y=>y);obtain⟨e,t,dx,rfl,hC,he,hE⟩:=z1;obtain⟨hp,g,d,tk,os⟩:=s1
 repeat (first|with_reducible refine wpAny_loadPart_at he ?_|with_reducible refine wpAny_loadPart_at hC ?_|(with_reducible refine wpAny_isSubtype_exc hC ?_;rw [hcB])|wp_step)
 exact wpAny_raiseNew_none hh hE
end
section
variable{X:Cx}{EX:EXS}{a b c:Expr}{f g h:FE}{pos:Pos}
def eVar(i:Nat):FE:=fun δ=>match δ[i]? with
 |some (some d)=> .ok (.sh d)
 |_=> .no
def eC(d:D):FE:=fun _=> .ok (.sh d)
theorem a_0(i:Nat){x:Str}(hN:X.N[i]? =some x:=by rfl)(hv:Vis X.env.scope x:=by first|exact Or.inl rfl|exact Or.inr (Or.inl rfl)|exact Or.inr (Or.inr rfl))(hd:(x ==("__debug__" :Str))=false:=by decide)
  (hcd:(x ==("__classdict__" :Str))=false:=by decide):ED X EX (.Name x pos) (eVar i):=
 PE.imp (h_4 hN hv hd hcd) fun σ H Q ⟨G,δ,g,s,o⟩=>by
  unfold eVar at o
  split at o
  ·rename_i d e;obtain⟨v,e1,r⟩:=s.get i d e;exact⟨v,e1,WP.use o g r⟩
  ·exact o.elim
theorem y_3{e:Expr}{d:D}(he:PE X e (tC v))(hd:∀G,Has X.K G v d):ED X EX e (eC d):=
 PE.imp he fun σ H Q ⟨G,δ,g,s,o⟩=>WP.use o g (hd G)
theorem a_4{i:Int}{j pos}:ED X EX (.Constant (.int i) j pos) (eC (.int i)):=y_3 do_6 fun _=> .int i
theorem aj_7{b:Bool}{j pos}:ED X EX (.Constant (.bool b) j pos) (eC (.bl b)):=y_3 dv_2 fun _=> .bl b
theorem x_7{j pos}:ED X EX (.Constant .none j pos) (eC .non):=y_3 cs_7 fun _=> .non
theorem p_6{x:Str}{j pos}:ED X EX (.Constant (.str x) j pos) (eC (.str x)):=y_3 do_7 fun _=> .str x
theorem u_7{x:Str}{i:Int}{t:Tok}(hg:Gl X x)(hm:X.mg x=some (.int i t))(hd:(x ==("__debug__" :Str))=false:=by decide):ED X EX (.Name x pos) (eC (.int i)):=y_3 (bk_2 (v:= .int i) hg hm ⟨t,rfl⟩ hd) fun _=> .int i
theorem ci_0{x:Str}{z:Str}{t:Tok}(hg:Gl X x)(hm:X.mg x=some (.str z t))(hd:(x ==("__debug__" :Str))=false:=by decide):ED X EX (.Name x pos) (eC (.str z)):=y_3 (bk_2 (v:= .str z) hg hm ⟨t,rfl⟩ hd) fun _=> .str z
def rD(K:Frag)(r:D→D→R W):R2:=fun x y H Q=>∃(EX:EXT) (G:Hp) (a b:D),Same G H∧Has K G x a∧Has K G y b∧Out K EX G H (r a b) Q
abbrev OpD(X:Cx)(f:Value→Value→Sem Value)(r:D→D→R W):Prop:=OpR X f (rD X.K r)
def eOp(r:D→D→R W)(f g:FE):FE:=fun δ=>(f δ).bind fun a=>(g δ).bind fun b=>r a.d b.d
theorem two{r:D→D→R W}{σ:Sg}{Q:VK}(q:tD K EX (eOp r f g) σ H Q):tOp (rD K r) (tD K EX f) (tD K EX g) σ H Q:=by
 obtain⟨G,δ,g0,s0,o⟩:=q;exact tD.seq g0 s0 o fun w v G1 H1 _ st1 r1 o1=>tD.seq st1.gh (s0.mono st1.gg) o1 fun w2 v2 G2 H2 _ st2 r2 o2=>⟨_,G2,w.d,w2.d,st2.gh,r1.mono st2.gg,r2,o2⟩
theorem a_5{op:Operator}{r:D→D→R W}(ho:OpD X (binaryOp op) r)(ha:ED X EX a f)(hb:ED X EX b g):ED X EX (.BinOp a op b pos) (eOp r f g):=
 PE.imp (dm_7 ho ha hb) fun _ _ _ q=>two q
theorem u_1{op:CmpOp}{r:D→D→R W}(ho:OpD X (compareOp op) r)(ha:ED X EX a f)(hb:ED X EX b g)(hm:behindInMarks op b=false):ED X EX (.Compare a [op] [b] pos) (eOp r f g):=
 PE.imp (df_1 ho ha hb hm) fun _ _ _ q=>two q
def boolD:D→R Bool
 | .bl b=> .ok b
 |_=> .no
def eTest(f:FE):FT:=fun δ=>(f δ).bind fun w=>boolD w.d
theorem dg_3{σ:Sg}{Q:Bool→Hp→Prop}(q:tDt K EX (eTest f) σ H Q):tD K EX f σ H fun x H'=>∃k,x= .bl k∧Q k H':=by
 obtain⟨G,δ,g0,s0,o⟩:=q;refine⟨G,δ,g0,s0, ?_⟩;unfold eTest at o;cases e:f δ with
 |ok w=>
  rw [e] at o;simp only [R.bind_ok] at o;refine WP.intro fun v G' H' st r=> ?_;revert r o;cases w.d with
  |bl k=>intro o r;cases r;exact⟨k,rfl,o G' H' st⟩
  |_=>intro o _;exact False.elim o
 |ex x=>rw [e] at o;exact o
 |no=>rw [e] at o;exact o
theorem c_7{op:CmpOp}{r:D→D→R W}(ho:OpD X (compareOp op) r)(ha:ED X EX a f)(hb:ED X EX b g)(hm:behindInMarks op b=false):TD X EX (.Compare a [op] [b] pos) (eTest (eOp r f g)):=
 PT.imp (df_2 ho ha hb hm) fun σ H Q q=>two (dg_3 q)
def ah_4(r r':D→D→R W)(f g h:FE):FE:=fun δ=>(f δ).bind fun a=>(g δ).bind fun b=>(r a.d b.d).bind fun z=>(boolD z.d).bind fun k=>
 if k=true then(h δ).bind fun c=>r' b.d c.d else .ok (.sh (.bl false))
theorem dx_7{r r':D→D→R W}{σ:Sg}{Q:VK}(q:tD K EX (ah_4 r r' f g h) σ H Q):ct_5 (rD K r) (rD K r') (tD K EX f) (tD K EX g) (tD K EX h) σ H Q:=by
 obtain⟨G,δ,g0,s0,o⟩:=q;refine tD.seq g0 s0 o fun w v G1 H1 _ st1 r1 o1=>tD.seq st1.gh (s0.mono st1.gg) o1 fun w2 v2 G2 H2 _ st2 r2 o2=>⟨EX σ,G2,w.d,w2.d,st2.gh,r1.mono st2.gg,r2, ?_⟩;revert o2;cases r w.d w2.d with
 |ok z=>
  intro o2;refine WP.intro fun v3 G3 H3 st3 r3=> ?_;have o2:Out K (EX σ) G2 H2 ((boolD z.d).bind fun k=>if k=true then(h δ).bind fun c=>r' w2.d c.d else .ok (.sh (.bl false))) Q:=o2;revert r3 o2;cases z.d with
  |bl k=>
   intro r3 o2;cases r3;refine⟨k,rfl, ?_⟩;cases k with
   |true=>
    rw [if_pos rfl];have o3:Out K (EX σ) G2 H2 ((h δ).bind fun c=>r' w2.d c.d) Q:=o2;exact tD.seq st3.gh (s0.mono (st1.gg.trans (st2.gg.trans st3.gg))) (o3.mono st3) fun w4 v4 G4 H4 _ st4 r4 o4=>⟨_,G4,w2.d,w4.d,st4.gh,r2.mono (st3.gg.trans st4.gg),r4,o4⟩
   |false=>
    rw [if_neg Bool.false_ne_true];have o3:WP K G2 H2 (.sh (.bl false)) Q:=o2;exact(o3.mono st3).use st3.gh (.bl false)
  |_=>intro _ o2;exact False.elim o2
 |ex x=>exact fun o2=>o2
 |no=>exact fun o2=>o2
theorem bt_6{op op':CmpOp}{r r':D→D→R W}(ho:OpD X (compareOp op) r)(ho':OpD X (compareOp op') r')(ha:ED X EX a f)(hb:ED X EX b g)(hc:ED X EX c h)
  (hm:lastMarks [op,op'] [b,c]=false:=by with_unfolding_all rfl):ED X EX (.Compare a [op,op'] [b,c] pos) (ah_4 r r' f g h):=
 PE.imp (ct_6 ho ho' ha hb hc hm) fun _ _ _ q=>dx_7 q
abbrev TW(X:Cx)(EX:EXS)(e:Expr)(f:FT):Prop:=PW X e (tDt X.K EX f)
variable{p q:FT}{t_0:List Expr}
def tAndF(p q:FT):FT:=fun δ=>(p δ).bind fun b=>if b=true then q δ else .ok false
def tOrF(p q:FT):FT:=fun δ=>(p δ).bind fun b=>if b=true then .ok true else q δ
def tNotF(p:FT):FT:=fun δ=>(p δ).bind fun b=> .ok (!b)
theorem av_0(ha:TD X EX a p):TW X EX (.BoolOp .And [a] pos) p:=de_6 ha
theorem ac_1(ha:TD X EX a p):TW X EX (.BoolOp .Or [a] pos) p:=do_8 ha
theorem tDt.two{σ:Sg}{Q:Bool→Hp→Prop}{k:Bool→DE→R Bool}{P:Bool→Hp→Prop}(h:tDt K EX (fun δ=>(p δ).bind fun b=>k b δ) σ H Q)
  (i:∀b H',tDt K EX (k b) σ H' Q→P b H'):tDt K EX p σ H P:=by
 obtain⟨G,δ,g0,s0,o⟩:=h;refine⟨G,δ,g0,s0, ?_⟩;cases e:p δ with
 |ok b=>
  simp only [e,R.bind_ok] at o;refine fun G' H' st=>i b H' ⟨G',δ,st.gh,s0.mono st.gg, ?_⟩;cases e2:k b δ with
  |ok c=>rw [e2] at o;exact fun G2 H2 st2=>o G2 H2 (st.trans st2)
  |ex x=>rw [e2] at o;exact(EX σ).mono _ _ _ _ _ st o
  |no=>rw [e2] at o;exact o
 |ex x=>simp only [e,R.bind_ex] at o;exact o
 |no=>simp only [e,R.bind_no] at o
theorem tDt.now{σ:Sg}{Q:Bool→Hp→Prop}{c:Bool}(h:tDt K EX (fun _=> .ok c) σ H Q):Q c H:=by
 obtain⟨G,δ,g0,s0,o⟩:=h;exact o G H (Step.refl g0)
theorem bl_1(ha:TD X EX a p)(hb:TW X EX (.BoolOp .And (b::t_0) pos) q):TW X EX (.BoolOp .And (a::b::t_0) pos) (tAndF p q):=
 PW.imp (do_9 ha hb) fun σ H Q h=>tDt.two (k:=fun b δ=>if b=true then q δ else .ok false) h fun b H' h'=>by
  cases b with
  |true=>rw [if_pos rfl];exact h'
  |false=>rw [if_neg Bool.false_ne_true];exact tDt.now h'
theorem aj_8(ha:TD X EX a p)(hb:TW X EX (.BoolOp .Or (b::t_0) pos) q):TW X EX (.BoolOp .Or (a::b::t_0) pos) (tOrF p q):=
 PW.imp (dv_3 ha hb) fun σ H Q h=>tDt.two (k:=fun b δ=>if b=true then .ok true else q δ) h fun b H' h'=>by
  cases b with
  |true=>rw [if_pos rfl];exact tDt.now h'
  |false=>rw [if_neg Bool.false_ne_true];exact h'
theorem td_w{e:Expr}(h:TW X EX e p):TD X EX e p:=h.pt
theorem ao_0(ha:TD X EX a p):TD X EX (.UnaryOp .Not a pos) (tNotF p):=
 PT.imp (dp_0 ha) fun σ H Q h=>tDt.two (k:=fun b _=> .ok (!b)) h fun b H' h'=>tDt.now h'
def eAnd(f g:FE):FE:=fun δ=>(f δ).bind fun a=>(boolD a.d).bind fun k=>if k=true then g δ else .ok (.sh (.bl false))
def eOr(f g:FE):FE:=fun δ=>(f δ).bind fun a=>(boolD a.d).bind fun k=>if k=true then .ok (.sh (.bl true)) else g δ
def eNot(f:FE):FE:=fun δ=>(f δ).bind fun a=>(boolD a.d).bind fun k=> .ok (.sh (.bl (!k)))
theorem bl_2{op}(h:ED X EX a f):ED X EX (.BoolOp op [a] pos) f:=dp_1 h
theorem tD.boolThen{σ:Sg}{Q:VK}{k:Bool→DE→R W}{P:Bool→Hp→Prop}(h:tD K EX (fun δ=>(f δ).bind fun a=>(boolD a.d).bind fun c=>k c δ) σ H Q)
  (i:∀c H',tD K EX (k c) σ H' Q→P c H'):tD K EX f σ H fun x H'=>∃c,x= .bl c∧P c H':=by
 obtain⟨G,δ,g0,s0,o⟩:=h;refine tD.seq g0 s0 o fun w v G1 H1 _ st1 r1 o1=> ?_;revert r1 o1;cases w.d with
 |bl c=>intro r1 o1;cases r1;exact⟨c,rfl,i c H1 ⟨G1,δ,st1.gh,s0.mono st1.gg,o1⟩⟩
 |_=>intro _ o1;exact False.elim o1
theorem tD.now{σ:Sg}{Q:VK}{d:D}(h:tD K EX (fun _=> .ok (.sh d)) σ H Q)(r:∀G,Has K G v d):Q v H:=by
 obtain⟨G,δ,g0,s0,o⟩:=h;exact WP.use o g0 (r G)
theorem bl_3(ha:ED X EX a f)(hb:ED X EX (.BoolOp .And (b::t_0) pos) g):ED X EX (.BoolOp .And (a::b::t_0) pos) (eAnd f g):=
 PE.imp (dp_2 ha hb) fun σ H Q h=>tD.boolThen (k:=fun k δ=>if k=true then g δ else .ok (.sh (.bl false))) h fun c H' h'=>by
  cases c with
  |true=>rw [if_pos rfl];exact h'
  |false=>rw [if_neg Bool.false_ne_true];exact tD.now h' fun _=> .bl false
theorem dr_6(ha:ED X EX a f):ED X EX (.UnaryOp .Not a pos) (eNot f):=
 PE.imp (dp_3 ha) fun σ H Q h=>tD.boolThen (k:=fun k _=> .ok (.sh (.bl (!k)))) h fun c H' h'=>tD.now h' fun _=> .bl (!c)
def eIf(p:FT)(f g:FE):FE:=fun δ=>(p δ).bind fun k=>if k=true then f δ else g δ
theorem cv_1(hc:TD X EX c p)(ha:ED X EX a f)(hb:ED X EX b g):ED X EX (.IfExp c a b pos) (eIf p f g):=
 PE.imp (cs_8 hc ha hb) fun σ H Q ⟨G,δ,g0,s0,o⟩=>tDt.seq g0 s0 o fun k G' H' _ st o'=>by
  cases k with
  |true=>rw [if_pos rfl];exact⟨G',δ,st.gh,s0.mono st.gg,o'⟩
  |false=>rw [if_neg Bool.false_ne_true];exact⟨G',δ,st.gh,s0.mono st.gg,o'⟩
def truthD:D→R Bool
 | .non=> .ok false
 | .bl b=> .ok b
 | .int i=> .ok (i != 0)
 | .str x=>if x.length≤16777216 then .ok ((x.length:Int) != 0) else .no
 | .lst ds=> .ok (!ds.isEmpty)
 | .tup ds=> .ok (!ds.isEmpty)
 |_=> .no
def eTruth(f:FE):FT:=fun δ=>(f δ).bind fun w=>truthD w.d
theorem bt_7{G:Hp}{ds:List D}(r:HasL K G vs ds):(!ds.isEmpty)= !vs.isEmpty:=by cases r <;> rfl
theorem dr_7{G H:Hp}{d:D}{k:Bool}(g:Same G H)(r:Has K G v d)(e:truthD d= .ok k):TruV K v H k:=by
 cases r with
 |non=>cases e;rfl
 |bl b=>cases e;rfl
 |int i=>cases e;rfl
 |str x=>
  have e:(if x.length≤16777216 then R.ok ((x.length:Int) != 0) else .no)= .ok k:=e
  split at e
  ·rename_i hz;cases e;exact⟨by rw [sizeLine_eq];exact hz,rfl⟩
  ·cases e
 |lst h r=>cases e;exact .inl ⟨_,g.seq h,bt_7 r⟩
 |tup h r=>cases e;exact .inr (.inl ⟨_,Same.tupS g h,bt_7 r⟩)
 |exn0 _ _=>cases e
 |exn1 _ _ _ _ _=>cases e
 |dic _ _ _=>cases e
 |obj _ _ _ _=>cases e
theorem e_3(ha:ED X EX a f)(he:∀whole,isTrue a X.env whole=(do let v←whole;standAt a.pos;holding [v] (truthy v)):=by intro _;rfl):TD X EX a (eTruth f):=
 PT.imp (ct_7 ha he) fun σ H Q ⟨G,δ,g0,s0,o⟩=>by
  refine⟨G,δ,g0,s0, ?_⟩;unfold eTruth at o;cases e:f δ with
  |ok w=>
   rw [e] at o;simp only [R.bind_ok] at o;refine WP.intro fun v G' H' st r=> ?_;cases e2:truthD w.d with
   |ok k=>rw [e2] at o;exact⟨k,dr_7 st.gh r e2,o G' H' st⟩
   |ex x=>rw [e2] at o;exfalso;revert e2;cases w.d <;> simp only [truthD] <;> intro e2 <;> first|cases e2|(split at e2 <;> cases e2)
   |no=>rw [e2] at o;exact o.elim
  |ex x=>rw [e] at o;exact o
  |no=>rw [e] at o;exact o
variable{e:Expr}{es:List Expr}{fa:FA}
def aNil:FA:=fun _=> .ok []
def aCons(f:FE)(fa:FA):FA:=fun δ=>(f δ).bind fun w=>(fa δ).bind fun ds=> .ok (w.d::ds)
theorem a_3:AD X EX [] aNil:=PA.imp x_6 fun σ H Q ⟨G,δ,g0,s0,o⟩=>o [] G H (Step.refl g0) .nil
theorem a_1(ha:ED X EX e f)(hr:AD X EX es fa)(hs:starEach (e::es) X.env=(false,eval e X.env)::starEach es X.env:=by rfl):AD X EX (e::es) (aCons f fa):=
 PA.imp (k_6 ha hr hs) fun σ H Q ⟨G,δ,g0,s0,o⟩=>by
  refine⟨G,δ,g0,s0, ?_⟩;unfold aCons at o;cases e1:f δ with
  |ok w=>
   rw [e1] at o;simp only [R.bind_ok] at o;refine WP.intro fun v G' H' st r=>⟨G',δ,st.gh,s0.mono st.gg, ?_⟩;cases e2:fa δ with
   |ok ds=>rw [e2] at o;exact fun vs G2 H2 st2 r2=>o (v::vs) G2 H2 (st.trans st2) (.cons (r.mono st2.gg) r2)
   |ex x=>rw [e2] at o;exact(EX σ).mono _ _ _ _ _ st o
   |no=>rw [e2] at o;exact o
  |ex x=>rw [e1] at o;exact o
  |no=>rw [e1] at o;exact o
def eTup(fa:FA):FE:=fun δ=>(fa δ).bind fun ds=>if ds.length≤16777216 then .ok (.sh (.tup ds)) else .no
def eLst(fa:FA):FE:=fun δ=>(fa δ).bind fun ds=>if ds.length≤16777216 then .ok (.ow (.lst ds)) else .no
theorem cv_2{x1}(ha:AD X EX es fa):ED X EX (.Tuple es x1 pos) (eTup fa):=
 PE.imp (cu_0 ha) fun σ H Q ⟨G,δ,g0,s0,o⟩=>tDa.seq g0 s0 o fun ds vs G' H' _ st r o'=>by
  split at o'
  ·rename_i hz;refine⟨by rw [r.length,sizeLine_eq];exact hz,fun p hp=>o' (.ref p) _ _ (Step.new st.gh hp _) (.tup (SqT.of b_3) (r.mono (l_1 (st.gh.free hp) _)))⟩
  ·exact o'.elim
theorem s_4(ha:AD X EX es fa):ED X EX (.List es pos) (eLst fa):=
 PE.imp (cu_1 ha) fun σ H Q ⟨G,δ,g0,s0,o⟩=>tDa.seq g0 s0 o fun ds vs G' H' _ st r o'=>by
  split at o'
  ·rename_i hz;refine⟨by rw [r.length,sizeLine_eq];exact hz,fun p hp=>w_7 o' st.gh r p hp⟩
  ·exact o'.elim
def rDc(K:Frag)(fn:List D→R W):List V→Hp→VK→Prop:=fun vs H Q=>∃(EX:EXT) (G:Hp) (ds:List D),Same G H∧HasL K G vs ds∧Out K EX G H (fn ds) Q
abbrev y_4(X:Cx)(v:Value)(fn:List D→R W):Prop:=ab_2 X v (rDc X.K fn)
def eCall(fn:List D→R W)(fa:FA):FE:=fun δ=>(fa δ).bind fn
theorem ci_1{fn:List D→R W}{σ:Sg}{Q:VK}(q:tD K EX (eCall fn fa) σ H Q):tCB (rDc K fn) (tDa K EX fa) σ H Q:=by
 obtain⟨G,δ,g0,s0,o⟩:=q;exact tDa.seq g0 s0 o fun ds vs G' H' _ st r o'=>⟨_,G',ds,st.gh,r,o'⟩
variable{x:Str}{pp:Pos}{id T:String}{fn:List D→R W}
theorem c_6(hc:y_4 X (.builtin id) fn)(hg:Gl X x)(hm:X.mg x=none)(hv:bootBuiltins x=some (.builtin id))(ha:AD X EX (e::es) fa)(hn:x≠ "__name__" :=by decide)(hdb:(x ==("__debug__" :Str))=false:=by decide)
  (he:starEach (e::es) X.env=(false,eval e X.env)::starEach es X.env:=by rfl) (hpl:(backTo pos (starEach es X.env)).any (·.1)=false:=by rfl):ED X EX (.Call (.Name x pp) (e::es) [] pos) (eCall fn fa):=
 PE.imp (ax_2 hc hg hm hv ha hn hdb he hpl) fun _ _ _ q=>ci_1 q
theorem j_3(hc:y_4 X (.type T) fn)(hg:Gl X x)(hm:X.mg x=none)(hv:bootBuiltins x=some (.type T))(ha:AD X EX (e::es) fa)(hn:x≠ "__name__" :=by decide)(hdb:(x ==("__debug__" :Str))=false:=by decide)
  (he:starEach (e::es) X.env=(false,eval e X.env)::starEach es X.env:=by rfl) (hpl:(backTo pos (starEach es X.env)).any (·.1)=false:=by rfl):ED X EX (.Call (.Name x pp) (e::es) [] pos) (eCall fn fa):=
 PE.imp (cn_3 hc hg hm hv ha hn hdb he hpl) fun _ _ _ q=>ci_1 q
def ixD:D→D→R W
 | .lst ds, .int i=>match atI ds i with|some d=> .ok (.sh d)|none=> .no
 | .tup ds, .int i=>match atI ds i with|some d=> .ok (.sh d)|none=> .no
 | .str z, .int i=>if z.length≤16777216 then(match atI z.cps.toList i with|some c=> .ok (.sh (.str ⟨#[c]⟩))|none=> .no) else .no
 |_,_=> .no
theorem HasL.atI{G:Hp}{ds:List D}{i:Int}{d:D}(r:HasL K G vs ds)(h:L2.atI ds i=some d):∃v,L2.atI vs i=some v∧Has K G v d:=by
 unfold L2.atI at h⊢;rw [r.length];cases e:ixN ds.length i with
 |none=>rw [e] at h;cases h
 |some j=>rw [e] at h;exact r.get h
theorem ix_d:IxR X (rD X.K ixD):=by
 intro value slice zc s σ H x y v u Q I rx ry h hs;obtain⟨EX,G,a,b,g,ra,rb,o⟩:=h;cases rb with
 |int i=>
  cases ra with
  |lst h r=>
   simp only [ixD] at o
   split at o
   ·rename_i d e;obtain⟨v,e1,r1⟩:=HasL.atI r e;exact df_9 value slice zc s σ H _ _ _ _ Q I rx ry ⟨_,_,i,v,rfl,rfl,g.seq h,e1,WP.use o g r1⟩ hs
   ·exact o.elim
  |tup h r=>
   simp only [ixD] at o
   split at o
   ·rename_i d e;obtain⟨v,e1,r1⟩:=HasL.atI r e;exact dq_9 value slice zc s σ H _ _ _ _ Q I rx ry ⟨_,_,i,v,rfl,rfl,Same.tupS g h,e1,WP.use o g r1⟩ hs
   ·exact o.elim
  |str z=>
   simp only [ixD] at o
   split at o
   ·rename_i hz
    split at o
    ·rename_i c e;exact dr_0 value slice zc s σ H _ _ _ _ Q I rx ry ⟨z,i,c,rfl,rfl,by rw [sizeLine_eq];exact hz,e,WP.use o g (.str _)⟩ hs
    ·exact o.elim
   ·exact o.elim
  |_=>exact False.elim o
 |_=>cases ra <;> exact False.elim o
theorem f_1(ha:ED X EX a f)(hb:ED X EX b g)(hs:ch_6 b:=by intro _ _;rfl):ED X EX (.Subscript a b pos) (eOp ixD f g):=
 PE.imp (dx_5 ix_d ha hb hs) fun _ _ _ q=>two q
end
end L3
namespace L2
open PySem PySem.Spec PyProof.Rows
section
variable{κ:Type} [DecidableEq κ]
def u_8(kvs:List (κ×V))(k:κ):Option V:=(kvs.find? fun kv=>decide (kv.1=k)).map (·.2)
def putK(kvs:List (κ×V))(k:κ)(v:V):List (κ×V):=
 if(kvs.any fun kv=>decide (kv.1=k))=true then kvs.map (fun kv=>if kv.1=k then(kv.1,v) else kv) else kvs ++ [(k,v)]
def q_2(kvs:List (κ×V))(k:κ):List (κ×V):=kvs.filter fun kv=>decide (kv.1≠k)
theorem ac_2{p:κ×V}{r:List (κ×V)}{k:κ}(e:p.1=k):u_8 (p::r) k=some p.2:=by simp [u_8,List.find?_cons,e]
theorem ac_3{p:κ×V}{r:List (κ×V)}{k:κ}(e:¬p.1=k):u_8 (p::r) k=u_8 r k:=by simp [u_8,List.find?_cons,e]
theorem ax_3(k:κ):∀kvs:List (κ×V),(kvs.any fun kv=>decide (kv.1=k))=(u_8 kvs k).isSome
 | []=>rfl
 |p::r=>by
  rw [List.any_cons]
  by_cases e:p.1=k
  ·simp only [ac_2 e,decide_eq_true e,Bool.true_or,Option.isSome_some]
  ·rw [ac_3 e,decide_eq_false e,Bool.false_or];exact ax_3 k r
theorem aq_9(kvs:List (κ×V))(k:κ)(v:V):(putK kvs k v).length≤kvs.length + 1:=by
 unfold putK
 split
 ·rw [List.length_map];omega
 ·rw [List.length_append,List.length_cons,List.length_nil];omega
theorem RelO.isSome_eq{o:Option V}{u:Option Value}(r:RelO o u):o.isSome=u.isSome:=by
 cases o with
 |none=>cases u with
  |none=>rfl
  |some _=>exact(show False from r).elim
 |some _=>cases u with
  |none=>exact(show False from r).elim
  |some _=>rfl
theorem RelO.getD{o:Option V}{u:Option Value}{d:V}{d':Value}(r:RelO o u)(rd:RelV d d'):RelV (o.getD d) (u.getD d'):=by
 cases o with
 |none=>cases u with
  |none=>exact rd
  |some _=>exact(show False from r).elim
 |some _=>cases u with
  |none=>exact(show False from r).elim
  |some _=>exact r
theorem KV.val{kvs:List (κ×V)}{vs:List (κ×Value)}(r:KV kvs vs)(k:κ):RelO (u_8 kvs k) (valueAt vs k):=by
 unfold KV at r
 induction r with
 |nil=>exact True.intro
 | @cons p q ps qs h t ih=>
  obtain⟨h1,h2⟩:=h
  by_cases e:p.1=k
  ·have e':q.1=k:=h1.symm.trans e;have b:valueAt (q::qs) k=some q.2:=by simp [valueAt,List.find?_cons,e']
   rw [ac_2 e,b];exact h2
  ·have e':¬q.1=k:=fun z=>e (h1.trans z);have b:valueAt (q::qs) k=valueAt qs k:=by simp [valueAt,List.find?_cons,e']
   rw [ac_3 e,b];exact ih
theorem KV.any{kvs:List (κ×V)}{vs:List (κ×Value)}(r:KV kvs vs)(k:κ):(kvs.any fun kv=>decide (kv.1=k))=vs.any fun kv=>decide (kv.1=k):=by
 unfold KV at r
 induction r with
 |nil=>rfl
 |cons h t ih=>rw [List.any_cons,List.any_cons,ih,h.1]
theorem KV.repl{kvs:List (κ×V)}{vs:List (κ×Value)}(r:KV kvs vs)(k:κ){y:V}{u:Value}(ry:RelV y u):
  KV (kvs.map fun kv=>if kv.1=k then(kv.1,y) else kv) (vs.map fun kv=>if kv.1=k then(kv.1,u) else kv):=by
 unfold KV at r⊢
 induction r with
 |nil=>exact .nil
 | @cons p q ps qs h t ih=>
  rw [List.map_cons,List.map_cons];refine .cons ?_ ih;obtain⟨h1,h2⟩:=h
  by_cases e:p.1=k
  ·rw [if_pos e,if_pos (h1.symm.trans e)];exact⟨h1,ry⟩
  ·rw [if_neg e,if_neg (fun z=>e (h1.trans z))];exact⟨h1,h2⟩
theorem KV.put{kvs:List (κ×V)}{vs:List (κ×Value)}(r:KV kvs vs)(k:κ){y:V}{u:Value}(ry:RelV y u):KV (putK kvs k y) (stored vs k u):=by
 unfold putK stored;rw [r.any k]
 by_cases e:(vs.any fun kv=>decide (kv.1=k))=true
 ·rw [if_pos e,if_pos e];exact r.repl k ry
 ·rw [if_neg e,if_neg e];exact Paired.snoc r ⟨rfl,ry⟩
theorem KV.drop{kvs:List (κ×V)}{vs:List (κ×Value)}(r:KV kvs vs)(k:κ):KV (q_2 kvs k) (without vs k):=by
 unfold KV at r⊢;unfold q_2 without
 induction r with
 |nil=>exact .nil
 | @cons p q ps qs h t ih=>
  obtain⟨h1,h2⟩:=h;rw [List.filter_cons,List.filter_cons]
  by_cases e:p.1=k
  ·have a:¬decide (p.1≠k)=true:=by simp [e]
   have b:¬decide (q.1≠k)=true:=by simp [h1.symm.trans e]
   rw [if_neg a,if_neg b];exact ih
  ·have e':¬q.1=k:=fun z=>e (h1.trans z);have a:decide (p.1≠k)=true:=by simp [e]
   have b:decide (q.1≠k)=true:=by simp [e']
   rw [if_pos a,if_pos b];exact .cons ⟨h1,h2⟩ ih
theorem KV.keys{kvs:List (κ×V)}{vs:List (κ×Value)}(r:KV kvs vs):kvs.map (·.1)=vs.map (·.1):=by
 unfold KV at r
 induction r with
 |nil=>rfl
 |cons h t ih=>rw [List.map_cons,List.map_cons,ih,h.1]
theorem KV.length{kvs:List (κ×V)}{vs:List (κ×Value)}(r:KV kvs vs):kvs.length=vs.length:=Paired.length r
theorem cv_3(kvs:List (κ×V))(k:κ):(q_2 kvs k).length≤kvs.length:=List.length_filter_le _ _
end
theorem ax_4{w:World}{k:Key}{u:Value}(r:RelV (kV k) u):(g_5 P w).is k u=true:=by
 cases k with
 |inl i=>obtain⟨t,e⟩:=(show∃t,u=Value.int i t from r);subst e;exact bs_6 P w i t
 |inr x=>obtain⟨t,e⟩:=(show∃t,u=Value.str x t from r);subst e;exact bs_7 P w x t
theorem bg_2{w:World}:∀{ks:List Key} {us:List Value},Vals (ks.map kV) us→ItemsAre (g_5 P w) ks us
 | [],_,r=>by rw [List.map_nil] at r;cases r;exact .nil
 |k::ks,_,r=>by
  rw [List.map_cons] at r;cases r with
  |cons h t=>exact .cons (ax_4 h) (bg_2 t)
abbrev KT(H:Hp):List (List Key×V)→List (List Key×Addr×Value)→Prop:=Paired fun p q=>p.1=q.1∧H q.2.1=some (.tup (p.1.map kV))∧RelV p.2 q.2.2
theorem KT.val{kvs:List (List Key×V)}{xs:List (List Key×Addr×Value)}(r:KT H kvs xs)(k:List Key):RelO (u_8 kvs k) ((atKey xs k).map (·.2)):=by
 induction r with
 |nil=>exact True.intro
 | @cons p q ps qs h t ih=>
  obtain⟨h1,_,h2⟩:=h
  by_cases e:p.1=k
  ·have e':q.1=k:=h1.symm.trans e;have b:atKey (q::qs) k=some q.2:=by simp [atKey,List.find?_cons,e']
   rw [ac_2 e,b];exact h2
  ·have e':¬q.1=k:=fun z=>e (h1.trans z);have b:atKey (q::qs) k=atKey qs k:=by simp [atKey,List.find?_cons,e']
   rw [ac_3 e,b];exact ih
theorem KT.repl{kvs:List (List Key×V)}{xs:List (List Key×Addr×Value)}(r:KT H kvs xs)(k:List Key){y:V}{u:Value}(ry:RelV y u):
  KT H (kvs.map fun kv=>if kv.1=k then(kv.1,y) else kv) (xs.map (putAt k u)):=by
 induction r with
 |nil=>exact .nil
 | @cons p q ps qs h t ih=>
  rw [List.map_cons,List.map_cons];refine .cons ?_ ih;obtain⟨h1,h2,h3⟩:=h;unfold putAt
  by_cases e:p.1=k
  ·rw [if_pos e,if_pos (h1.symm.trans e)];exact⟨h1,h2,ry⟩
  ·rw [if_neg e,if_neg (fun z=>e (h1.trans z))];exact⟨h1,h2,h3⟩
theorem KT.put{kvs:List (List Key×V)}{xs:List (List Key×Addr×Value)}(r:KT H kvs xs)(k:List Key){b:Addr}{y:V}{u:Value}(hb:H b=some (.tup (k.map kV)))(ry:RelV y u):
  KT H (putK kvs k y) (storedH xs k b u):=by
 have e:(kvs.any fun kv=>decide (kv.1=k))=(atKey xs k).isSome:=by
  rw [ax_3,(r.val k).isSome_eq,Option.isSome_map]
 unfold putK storedH;rw [e]
 by_cases q:(atKey xs k).isSome=true
 ·rw [if_pos q,if_pos q];exact r.repl k ry
 ·rw [if_neg q,if_neg q];exact Paired.snoc r ⟨rfl,hb,ry⟩
theorem KT.keeps{H H':Hp}{kvs:List (List Key×V)}{xs:List (List Key×Addr×Value)}(r:KT H kvs xs)(ht:∀b ys,H b=some (.tup ys)→H' b=some (.tup ys)):KT H' kvs xs:=
 Paired.mapP r fun _ _ z=>⟨z.1,ht _ _ z.2.1,z.2.2⟩
section
variable{P:Program}{w:World}{H:Hp}{h:Heap}{a:Addr}
theorem dm_9{u:HO}(ok:HOk P w H h)(e:Rd H a u):ObjOk P w H h a u:=e.ok ok
theorem aj_9{kvs:List (Key×V)}(ok:HOk P w H h)(e:Rd H a (.dK kvs)):kvs.length≤sizeLine∧(a ==sysModules)=false∧∃vs,KV kvs vs∧h.DictOf (g_5 P w) a vs:=
 show ObjOk P w H h a (.dK kvs) from dm_9 ok e
theorem cv_4{kvs:List (Key×V)}(ok:HOk P w H h)(e:H a=some (.dK kvs)):kvs.length≤sizeLine∧(a ==sysModules)=false∧∃vs,KV kvs vs∧h.DictOf (g_5 P w) a vs:=aj_9 ok (.inl e)
theorem ax_5{ks:List Key}(ok:HOk P w H h)(e:H a=some (.tup (ks.map kV))):(tupleKind (g_5 P w)).is h ks a:=by
 obtain⟨_,its,r,o,h1,h2,n,h3⟩:=(show ObjOk P w H h a (.tup (ks.map kV)) from ok a _ e);exact⟨o,its.toArray,n,h1,h2,h3,by simpa using bg_2 r⟩
theorem bg_3{kvs:List (List Key×V)}(ok:HOk P w H h)(e:Rd H a (.dT kvs)):kvs.length≤sizeLine∧(a ==sysModules)=false∧
  ∃xs,KT H kvs xs∧h.DictOfH (tupleKind (g_5 P w)) a xs:=by
 obtain⟨z,y,xs,r,o,es,ep,h1,h2,h3,h4,h5⟩:=(show ObjOk P w H h a (.dT kvs) from dm_9 ok e);refine⟨z,y,xs,r,o,es,ep,h1,h2,h3,h4,fun x hx=> ?_,h5⟩;have all:∀{l:List (List Key×V)} {m:List (List Key×Addr×Value)},KT H l m→∀x∈m,(tupleKind (g_5 P w)).is h x.1 x.2.1:=by
  intro l m q
  induction q with
  |nil=>intro x hx;exact nomatch hx
  | @cons p q ps qs hq t ih=>
   intro x hx;rcases List.mem_cons.mp hx with e|hx
   ·subst e;exact ax_5 ok (by rw [←hq.1];exact hq.2.1)
   ·exact ih x hx
 exact all r x hx
theorem dx_8{kvs:List (List Key×V)}(ok:HOk P w H h)(e:H a=some (.dT kvs)):kvs.length≤sizeLine∧(a ==sysModules)=false∧
  ∃xs,KT H kvs xs∧h.DictOfH (tupleKind (g_5 P w)) a xs:=bg_3 ok (.inl e)
end
def DGet(H:Hp)(a:Addr)(y:V)(r:Option V):Prop:=
 (∃kvs k,Rd H a (.dK kvs)∧y=kV k∧r=u_8 kvs k)∨∃kvs k b,Rd H a (.dT kvs)∧y= .ref b∧H b=some (.tup (k.map kV))∧r=u_8 kvs k
def DPut(H:Hp)(a:Addr)(y v:V)(H':Hp):Prop:=
 (∃kvs k,H a=some (.dK kvs)∧y=kV k∧kvs.length < sizeLine∧H'=upd H a (.dK (putK kvs k v)))∨
 ∃kvs k b,H a=some (.dT kvs)∧y= .ref b∧H b=some (.tup (k.map kV))∧kvs.length < sizeLine∧H'=upd H a (.dT (putK kvs k v))
theorem DGet.t{a b:Addr}{kvs:List (List Key×V)}{k:List Key}(e:H a=some (.dT kvs))(eb:H b=some (.tup (k.map kV))):DGet H a (.ref b) (u_8 kvs k):= .inr ⟨kvs,k,b, .inl e,rfl,eb,rfl⟩
theorem DPut.k{a:Addr}{kvs:List (Key×V)}{k:Key}(e:H a=some (.dK kvs))(hl:kvs.length < sizeLine):DPut H a (kV k) v (upd H a (.dK (putK kvs k v))):= .inl ⟨kvs,k,e,rfl,hl,rfl⟩
theorem DPut.t{a b:Addr}{kvs:List (List Key×V)}{k:List Key}(e:H a=some (.dT kvs))(eb:H b=some (.tup (k.map kV)))(hl:kvs.length < sizeLine):
  DPut H a (.ref b) v (upd H a (.dT (putK kvs k v))):= .inr ⟨kvs,k,b,e,rfl,eb,hl,rfl⟩
section
variable{X:Cx}{zc:List (Addr×Obj)}{σ:St}{H:Hp}{s:Shared}{a:Addr}{y v:V}{u r:Value}{o:Option V}{A:Around}{E:Value→Shared→Prop}
theorem Inv.big(I:Inv X zc σ H s):sysModules < s.heap.objs.size:=by
 have h:mainGlobals < s.heap.objs.size:=(I.mod.glob.keeps I.bk).lt;exact Nat.lt_trans (by decide) h
theorem co_0{Q:Value→Shared→Prop}(hu:A.units + 1 < cLine)(I:Inv X zc σ H s)(g:DGet H a y (some v))(ry:RelV y u)(h:∀w' s',Inv X zc σ H s'→RelV v w'→Q w' s'):
  wpAny (model X.prog X.w) A (getItem (.ref a) u) Q E s:=by
 rcases g with⟨kvs,k,e,ey,l⟩|⟨kvs,k,b,e,ey,eb,l⟩
 ·subst ey;obtain⟨z,hd,vs,rel,dd⟩:=aj_9 I.hok e;obtain⟨w',hw,rw'⟩:=RelO.some_of (v:=v) (o:=valueAt vs k) (by rw [l];exact rel.val k);exact wpAny_getItem_of (ax_4 ry) dd.mapOf hw (h w' _ (I.tok _) rw')
 ·subst ey;cases(show u=Value.ref b from ry);obtain⟨z,hd,xs,rel,dd⟩:=bg_3 I.hok e;obtain⟨w',hw,rw'⟩:=RelO.some_of (v:=v) (o:=(atKey xs k).map (·.2)) (by rw [l];exact rel.val k);obtain⟨p,hp,hp2⟩:=Option.map_eq_some_iff.mp hw;refine wpAny_getItem_heap (tupleKind_room_in1 hu) (ax_5 I.hok eb) dd hp ?_;rw [hp2];exact h w' _ (I.tok _) rw'
theorem d_in{Q:Value→Shared→Prop}(hu:A.units + 1 < cLine)(I:Inv X zc σ H s)(g:DGet H a y o)(ry:RelV y u)(h:∀s',Inv X zc σ H s'→Q (.bool o.isSome) s'):
  wpAny (model X.prog X.w) A (compareOp .In u (.ref a)) Q E s:=by
 rcases g with⟨kvs,k,e,ey,l⟩|⟨kvs,k,b,e,ey,eb,l⟩
 ·subst ey;obtain⟨z,hd,vs,rel,dd⟩:=aj_9 I.hok e;refine wpAny_in_of (ax_4 ry) hd dd.mapOf ?_;rw [←(rel.val k).isSome_eq,←l];exact h _ (I.tok _)
 ·subst ey;cases(show u=Value.ref b from ry);obtain⟨z,hd,xs,rel,dd⟩:=bg_3 I.hok e;refine wpAny_in_heap (tupleKind_room_in1 hu) (ax_5 I.hok eb) hd dd ?_;have q:=(rel.val k).isSome_eq;rw [Option.isSome_map] at q;rw [←q,←l];exact h _ (I.tok _)
theorem dg_4{Q:Value→Shared→Prop}(hu:A.units + 1 < cLine)(I:Inv X zc σ H s)(g:DGet H a y o)(ry:RelV y u)(h:∀s',Inv X zc σ H s'→Q (.bool (!o.isSome)) s'):
  wpAny (model X.prog X.w) A (compareOp .NotIn u (.ref a)) Q E s:=by
 rcases g with⟨kvs,k,e,ey,l⟩|⟨kvs,k,b,e,ey,eb,l⟩
 ·subst ey;obtain⟨z,hd,vs,rel,dd⟩:=aj_9 I.hok e;refine wpAny_notIn_of (ax_4 ry) hd dd.mapOf ?_;rw [←(rel.val k).isSome_eq,←l];exact h _ (I.tok _)
 ·subst ey;cases(show u=Value.ref b from ry);obtain⟨z,hd,xs,rel,dd⟩:=bg_3 I.hok e;refine wpAny_notIn_heap (tupleKind_room_in1 hu) (ax_5 I.hok eb) hd dd ?_;have q:=(rel.val k).isSome_eq;rw [Option.isSome_map] at q;rw [←q,←l];exact h _ (I.tok _)
theorem bl_4{h':Heap}{t':Nat}{ob:HO}(I:Inv X zc σ H s)(mu:Mut (H a))(hs:Heap.SameBut a s.heap h')(he:∃q,h'.get? a=some q)(new:ObjOk X.prog X.w (upd H a ob) h' a ob):
  Inv X zc σ (upd H a ob) {s with heap:=h',toks:=t'}:=
 I.write (x:=a) (e:=a) mu (.inl rfl) (fun b q hb z=>(hs.2 b hb).trans z) he new
theorem cv_5{w:World}{H':Hp}{h':Heap}{kvs:List (Key×V)}{vs:List (Key×Value)}(z:kvs.length≤sizeLine)(hd:(a ==sysModules)=false)(rel:KV kvs vs)(dd:h'.DictOf (g_5 P w) a vs):
  ObjOk P w H' h' a (.dK kvs):=⟨z,hd,vs,rel,dd⟩
theorem co_1{H':Hp}{Q:Unit→Shared→Prop}(hu:A.units + 1 < cLine)(I:Inv X zc σ H s)(g:DPut H a y v H')(ry:RelV y u)(rv:RelV v r)(h:∀s',Inv X zc σ H' s'→Q () s'):
  wpAny (model X.prog X.w) A (setItem (.ref a) u r) Q E s:=by
 rcases g with⟨kvs,k,e,ey,l,eH⟩|⟨kvs,k,b,e,ey,eb,l,eH⟩
 ·subst ey eH;obtain⟨z,hd,vs,rel,dd⟩:=cv_4 I.hok e;have hz:vs.length≤sizeLine:=by rw [←rel.length];exact z
  have hl:(putK kvs k v).length≤sizeLine:=by have:=aq_9 kvs k v;omega
  refine wpAny_setItem_pairs (hsz:=hz) (ax_4 ry) dd fun h' dd' hs=>h _ ?_;have he:∃q,h'.get? a=some q:=let⟨q,_,_,hq,_⟩:=dd';⟨q,hq⟩;exact bl_4 I (by rw [e];exact True.intro) hs he (cv_5 hl hd (rel.put k rv) dd')
 ·subst ey eH;cases(show u=Value.ref b from ry);obtain⟨z,hd,xs,rel,dd⟩:=dx_8 I.hok e;have hz:xs.length≤sizeLine:=by rw [←Paired.length rel];exact z
  have hl:(putK kvs k v).length≤sizeLine:=by have:=aq_9 kvs k v;omega
  refine wpAny_setItem_heap (hsz:=hz) (tupleKind_room_in1 hu) (ax_5 I.hok eb) dd fun h' dd' hs=>h _ ?_;obtain⟨q,es,ep,hq,h2,h3,h4,_,h5⟩:=dd';refine bl_4 I (by rw [e];exact True.intro) hs ⟨q,hq⟩ ⟨hl,hd,_,(rel.put k eb rv).keeps fun c ys ec=> ?_,q,es,ep,hq,h2,h3,h4,h5⟩;rw [b_0 (dv_1 ec e (fun z=>nomatch z))];exact ec
end
section
variable{X:Cx}{zc:List (Addr×Obj)}{σ:St}{H:Hp}{s:Shared}{a:Addr}{kvs:List (Key×V)}{k:Key}{u:Value}{A:Around}{E:Value→Shared→Prop}
theorem dx_9{more:List Value}{Q:Value→Shared→Prop}(I:Inv X zc σ H s)(e:H a=some (.dK kvs))(ry:RelV (kV k) u)(l:u_8 kvs k=some v)(hm:more= []∨∃x,more= [x])
  (h:∀w' s',Inv X zc σ (upd H a (.dK (q_2 kvs k))) s'→RelV v w'→Q w' s'):wpAny (model X.prog X.w) A (call (.builtin "dict.pop") (.ref a::u::more)) Q E s:=by
 obtain⟨z,hd,vs,rel,dd⟩:=cv_4 I.hok e;obtain⟨w',hw,rw'⟩:=RelO.some_of (v:=v) (o:=valueAt vs k) (by rw [←l];exact rel.val k);have hp:(keyPart u).isSome=true:=by
  cases k with
  |inl i=>obtain⟨t,q⟩:=(show∃t,u=Value.int i t from ry);subst q;rfl
  |inr x=>obtain⟨t,q⟩:=(show∃t,u=Value.str x t from ry);subst q;rfl
 have ha:argsOk "dict.pop" ⟨.ref a::u::more, []⟩:=by
  rcases hm with q|⟨x,q⟩
  ·subst q;exact PySem.F.args_dict_pop_2 _ _
  ·subst q;exact PySem.F.args_dict_pop_3 _ _ _
 refine call_meetsIn PySem.F.slot_dict_pop dd.typeIs PySem.F.entry_dict_pop ha (meets_dict_pop_there (g_5 X.prog X.w) a (ax_4 ry) more hm hp)
  ⟨vs,w',dd,by rw [←rel.length];exact z,hw,fun h' dd' hs=>h w' _ ?_ rw'⟩
 have he:∃q,h'.get? a=some q:=let⟨q,_,_,hq,_⟩:=dd';⟨q,hq⟩;exact bl_4 I (by rw [e];exact True.intro) hs he (cv_5 (Nat.le_trans (cv_3 kvs k) z) hd (rel.drop k) dd')
theorem dr_8{r:Value}{Q:Value→Shared→Prop}(I:Inv X zc σ H s)(e:H a=some (.dK kvs))(ry:RelV (kV k) u)(l:u_8 kvs k=none)(h:∀s',Inv X zc σ H s'→Q r s'):
  wpAny (model X.prog X.w) A (call (.builtin "dict.pop") [.ref a,u,r]) Q E s:=by
 obtain⟨z,hd,vs,rel,dd⟩:=cv_4 I.hok e;have hn:valueAt vs k=none:=RelO.none_of (by rw [←l];exact rel.val k);have hp:(keyPart u).isSome=true:=by
  cases k with
  |inl i=>obtain⟨t,q⟩:=(show∃t,u=Value.int i t from ry);subst q;rfl
  |inr x=>obtain⟨t,q⟩:=(show∃t,u=Value.str x t from ry);subst q;rfl
 exact call_meetsIn PySem.F.slot_dict_pop dd.typeIs PySem.F.entry_dict_pop (PySem.F.args_dict_pop_3 _ _ _) (meets_dict_pop_default (g_5 X.prog X.w) a (ax_4 ry) hd hp r) ⟨vs,dd,hn,h _ (I.tok _)⟩
theorem dy_0{Q:Value→Shared→Prop}(I:Inv X zc σ H s)(e:Rd H a (.dK kvs))(h:∀t s',Inv X zc σ H s'→Q (.int kvs.length t) s'):wpAny (model X.prog X.w) A (call (.builtin "len") [.ref a]) Q E s:=by
 obtain⟨z,hd,vs,rel,dd⟩:=aj_9 I.hok e;refine call_len_dict hd dd (by rw [←rel.length];rw [sizeLine_eq] at z;omega) ?_;rw [←rel.length];exact h _ _ (I.tok _)
end
def NoSl(i:Expr):Prop:=∀ov iv,subscripted i false ov iv=operate [ov,iv] (getItem ov iv)
theorem dg_5{prog:Program}{w:World}{A:Around}{E:Value→Shared→Prop}{s:Shared}{env:Env}{value slice:Expr}{T id:String}{Q:Value→Shared→Prop}
  (hl:typeLookup (.type T) "__getitem__" =pure (some (.builtin id))) (hs:NoSl slice)
  (h:wpAny (model prog w) A (eval value env) (fun o s₁=>wpAny (model prog w) A (eval slice env) (fun i s₂=>s₂.TypeIs o T∧wpAny (model prog w) A (getItem o i) Q E s₂) E s₁) E s):
  wpAny (model prog w) A (eval (.Subscript value slice pos) env) Q E s:=by
 refine Subscript_ (wpAny_mono h (fun o s₁ h₁=>wpAny_mono h₁ (fun i s₂ h₂=> ?_) fun _ _ x=>x) fun _ _ x=>x);obtain⟨hT,h₂⟩:=h₂;unfold subscriptTail;refine wpAny_bind ?_;rw [getitemInPython_of_ne hT.not_modules];refine wpAny_bind (wpAny_specialOf hT hl ?_);have fin:wpAny (model prog w) A (subscripted slice false o i) (fun r s₃=>wpAny (model prog w) A (letTemporaryGo value o r >>=fun _=>pure r) Q E s₃) E s₂:=by
  rw [hs o i];exact wpAny_operating (wpAny_mono h₂ (fun r s₃ h₃=>wpAny_bind (wpAny_letTemporaryGo (wpAny_pure h₃))) fun _ _ x=>x)
 first
  |exact wpAny_pure (wpAny_bind fin)
  |exact wpAny_bind (wpAny_pure (wpAny_bind fin))
  |exact wpAny_bind fin
theorem bt_8{zc:List (Addr×Obj)}{σ:St}{s:Shared}{a:Addr}{y:V}{o:Option V}(I:Inv X zc σ H s)(g:DGet H a y o):s.TypeIs (.ref a) "dict" :=by
 rcases g with⟨kvs,k,e,_,_⟩|⟨kvs,k,b,e,_,_,_⟩
 ·obtain⟨_,_,vs,_,dd⟩:=aj_9 I.hok e;exact dd.typeIs
 ·obtain⟨_,_,xs,_,dd⟩:=bg_3 I.hok e;exact dd.typeIs
def dy_1(td ty:TE):TE:=fun σ H Q=>td σ H fun x H1=>ty σ H1 fun y H2=>∃a v,x= .ref a∧DGet H2 a y (some v)∧Q v H2
def dy_2(td ty tv:TE):TS:=fun D σ H=>tv σ H fun v H1=>td σ H1 fun x H2=>ty σ H2 fun y H3=>∃a H4,x= .ref a∧DPut H3 a y v H4∧D.nx σ H4
section
variable{X:Cx}{o i e value:Expr}{pos pos' zg:Pos}{td ty tv:TE}
theorem bl_5(hu:X.A.units + 1 < cLine)(ho:PE X o td)(hi:PE X i ty)(hs:NoSl i):PE X (.Subscript o i pos) (dy_1 td ty):=by
 intro zc s σ H Q I h;refine dg_5 PySem.F.slot_dict_getitem.lookup hs (thn (ho zc s σ H _ I h) fun u s1 ⟨x,H1,I1,rx,q1⟩=>thn (hi zc s1 σ H1 _ I1 q1) fun iv s2 ⟨y,H2,I2,ry,a,v,ex,g,q2⟩=> ?_);subst ex;obtain rfl:u=Value.ref a:=rx;exact⟨bt_8 I2 g,co_0 hu I2 g ry fun w' s3 I3 rw'=>⟨v,H2,I3,rw',q2⟩⟩
theorem bl_6(hu:X.A.units + 1 < cLine)(ho:PE X o td)(hi:PE X i ty)(hv:PE X value tv)(hs:swapsWith value (some (.Subscript o i pos')) pos.line X.env=pure false):
  PS X (.Assign [.Subscript o i pos'] value pos) (dy_2 td ty tv):=by
 intro zc s σ H D I h;refine wpAny_Assign_Subscript (thn (hv zc s σ H _ I h) fun r s1 ⟨v,H1,I1,rv,q1⟩=>thn (ho zc s1 σ H1 _ I1 q1) fun u s2 ⟨x,H2,I2,rx,q2⟩=>thn (hi zc s2 σ H2 _ I2 q2) fun iv s3 ⟨y,H3,I3,ry,a,H4,ex,g,q3⟩=> ?_) hs;subst ex;obtain rfl:u=Value.ref a:=rx;exact co_1 hu I3 g ry rv fun s4 I4=>⟨σ,H4,I4,q3⟩
end
theorem cv_7{w:World}(h:Heap)(hb:sysModules < h.objs.size):ObjOk P w H (h.push {cls:= .type "dict",data:= .dict #[]}) h.objs.size (.dK []):=
 ⟨Nat.zero_le _,beq_eq_false_iff_ne.mpr (Ne.symm (Nat.ne_of_lt hb)), [], .nil,Heap.DictOf.new h⟩
def dr_9:TE:=fun _ H Q=>∀p,H p=none→Q (.ref p) (upd H p (.dK []))
section
variable{X:Cx}{pos:Pos}
theorem bt_9:PE X (.Dict [] [] pos) dr_9:=fun zc s σ H Q I h=>
 wpAny_Dict_empty ⟨.ref s.heap.objs.size,_,I.laid (a:=s.heap.objs.size) (o:= .dK []) (t':=s.toks) (fun _ _ q=>Heap.get?_push_of_some _ q) (Nat.le_refl _) (cv_7 s.heap I.big),rfl,h _ (I.hok.fresh (Nat.le_refl _))⟩
end
structure M1(X:Cx)(o:Expr)(m:Str)(zf:Pos)(e:Expr)(zd:Pos):Prop where
 base:attributeBase o m X.env (eval o X.env)=eval o X.env
 few:((backTo zd (starEach [e] X.env)).all (fun x=> !x.1) && (backToKw zd (keywordEach [] X.env)).all (fun x=>x.1.isSome)
  && decide (([e]:List Expr).length + ([]:List Keyword).length + (if([]:List Keyword).isEmpty then 0 else 1) < 30))=true
 line:(zf.endLine ==zd.line)=true
 trees:backTo zd (starEach [e] X.env)= [(false,eval e X.env)]
structure M2(X:Cx)(o:Expr)(m:Str)(zf:Pos)(e f:Expr)(zd:Pos):Prop where
 base:attributeBase o m X.env (eval o X.env)=eval o X.env
 few:((backTo zd (starEach [e,f] X.env)).all (fun x=> !x.1) && (backToKw zd (keywordEach [] X.env)).all (fun x=>x.1.isSome)
  && decide (([e,f]:List Expr).length + ([]:List Keyword).length + (if([]:List Keyword).isEmpty then 0 else 1) < 30))=true
 line:(zf.endLine ==zd.line)=true
 trees:backTo zd (starEach [e,f] X.env)= [(false,eval e X.env),(false,eval f X.env)]
def IsD(H:Hp)(a:Addr):Prop:=(∃kvs,Rd H a (.dK kvs))∨∃kvs,Rd H a (.dT kvs)
theorem ds_0{zc:List (Addr×Obj)}{σ:St}{s:Shared}{a:Addr}(I:Inv X zc σ H s)(d:IsD H a):
  s.TypeIs (.ref a) "dict" ∧(∀b,Value.ref a= .ref b→∃ob,s.heap.get? b=some ob∧ob.dict=none)∧(a ==sysModules)=false:=by
 rcases d with⟨kvs,e⟩|⟨kvs,e⟩
 ·obtain⟨_,hd,vs,_,dd⟩:=aj_9 I.hok e;refine⟨dd.typeIs,fun b q=> ?_,hd⟩;cases q;obtain⟨ob,_,_,h1,h2,_⟩:=dd;exact⟨ob,h1,h2.2.1⟩
 ·obtain⟨_,hd,xs,_,dd⟩:=bg_3 I.hok e;refine⟨dd.typeIs,fun b q=> ?_,hd⟩;cases q;obtain⟨ob,_,_,h1,h2,_⟩:=dd;exact⟨ob,h1,h2.2.1⟩
section
variable{X:Cx}{zc:List (Addr×Obj)}{σ:St}{H:Hp}{s:Shared}{a:Addr}{y d:V}{u r:Value}{o:Option V}{A:Around}{E:Value→Shared→Prop}
end
def ds_1(td ty tx:TE):TE:=fun σ H Q=>td σ H fun x H1=>∃a,x= .ref a∧IsD H1 a∧ty σ H1 fun y H2=>tx σ H2 fun z H3=>∃kvs k,H3 a=some (.dK kvs)∧y=kV k∧
 (∀v,u_8 kvs k=some v→Q v (upd H3 a (.dK (q_2 kvs k))))∧(u_8 kvs k=none→Q z H3)
section
variable{X:Cx}{o e f:Expr}{zf zd:Pos}{td ty tx:TE}
theorem cv_8(ho:PE X o td)(he:PE X e ty)(hf:PE X f tx)(m:M2 X o "pop" zf e f zd):PE X (.Call (.Attribute o "pop" zf) [e,f] [] zd) (ds_1 td ty tx):=by
 intro zc s σ H Q I h;refine wpAny_Call_method m.base m.few m.line PySem.F.plainAttrs_dict PySem.F.slot_dict_pop PySem.F.type_dict_pop (thn (ho zc s σ H _ I h) fun u s1 ⟨x,H1,I1,rx,a,ex,d,q1⟩=> ?_);subst ex;obtain rfl:u=Value.ref a:=rx;obtain⟨t1,t2,_⟩:=ds_0 I1 d;refine⟨t1,t2, ?_⟩;rw [m.trees];refine Calls.callWith_builtin rfl (Calls.evalArgs_plain (Calls.spliced_cons (thn (he zc s1 σ H1 _ I1 q1) fun iv s2 ⟨y,H2,I2,ry,q2⟩=>
  Calls.spliced_cons (thn (hf zc s2 σ H2 _ I2 q2) fun fv s3 ⟨z,H3,I3,rz,kvs,k,ea,ey,q3,q4⟩=>Calls.spliced_nil ?_))))
 subst ey;cases l:u_8 kvs k with
 |some v=>exact dx_9 I3 ea ry l (.inr ⟨fv,rfl⟩) fun w' s4 I4 rw'=>⟨v,_,I4,rw',q3 v l⟩
 |none=>exact dr_8 I3 ea ry l fun s4 I4=>⟨z,H3,I4,rz,q4 l⟩
end
section
variable{X:Cx}{zc:List (Addr×Obj)}{σ:St}{H:Hp}{s:Shared}{a:Addr}{kvs:List (Key×V)}{A:Around}{E:Value→Shared→Prop}
end
section
variable{X:Cx}{zc:List (Addr×Obj)}{σ:St}{H:Hp}{s:Shared}{a:Addr}{y:V}{u:Value}{A:Around}{E:Value→Shared→Prop}
end
section
variable{X:Cx}
end
section
variable{κ:Type} [DecidableEq κ]
theorem cv_9{kvs:List (κ×V)}{k:κ}(h:u_8 kvs k=none):¬k∈kvs.map (·.1):=by
 intro m;obtain⟨p,hp,e⟩:=List.mem_map.mp m;have q:(kvs.any fun kv=>decide (kv.1=k))=true:=List.any_eq_true.mpr ⟨p,hp,decide_eq_true e⟩;rw [ax_3,h] at q;exact absurd q (by simp)
theorem co_2{p:κ×V}{r:List (κ×V)}{k:κ}(e:p.1=k):q_2 (p::r) k=q_2 r k:=by
 unfold q_2;rw [List.filter_cons,if_neg (by simp [e])]
theorem bg_4{p:κ×V}{r:List (κ×V)}{k:κ}(e:¬p.1=k):q_2 (p::r) k=p::q_2 r k:=by
 unfold q_2;rw [List.filter_cons,if_pos (by simp [e])]
theorem bu_0:∀{kvs:List (κ×V)} {k:κ},¬k∈kvs.map (·.1)→q_2 kvs k=kvs
 | [],_,_=>rfl
 |p::r,k,h=>by
  have h':¬k∈r.map (·.1):=fun m=>by
   obtain⟨q,hq,e⟩:=List.mem_map.mp m;exact h (List.mem_map.mpr ⟨q,List.mem_cons.mpr (Or.inr hq),e⟩)
  rw [bg_4 fun e=>h (List.mem_map.mpr ⟨p,List.mem_cons.mpr (Or.inl rfl),e⟩),bu_0 h']
end
end L2
namespace L3
open PySem PySem.Spec PyProof.Rows L2
variable{K:Frag}{fd:FuncData}{mg:Str→Option Value}{P:Program}{vs:List V}{us:List Value}{base:Heap}{H:Hp}{X:Cx}{pos:Pos}{v:V}
section
variable{X:Cx}
theorem d_7{EX:EXT}{G H:Hp}{Q:VK}{d:D}(o:Out K EX G H (.ok (.sh d)) Q)(g:Same G H)(r:Has K G v d):Q v H:=WP.use o g r
def dy_3(K:Frag):R2:=fun x y H Q=>∃l b xs zs,x= .ref l∧y= .ref b∧SqL K H l xs∧SqL K H b zs∧xs.length + zs.length≤sizeLine∧∀p,H p=none→Q (.ref p) (upd H p (.lst (xs ++ zs)))
theorem dg_6:OpR X (binaryOp .Add) (dy_3 X.K):=by
 intro zc s σ H x y v u Q I rx ry h;obtain⟨l,b,xs,zs,rfl,rfl,hH,hB,hz,q⟩:=h;cases rx;cases ry;obtain⟨its,r,⟨o,n,e,c,dd,dat⟩,z⟩:=I.list hH;obtain⟨its2,r2,⟨o2,n2,e2,c2,dd2,dat2⟩,z2⟩:=I.list hB;have hl:=r.length;have hl2:=r2.length;obtain⟨cls,dd',data,sl⟩:=o;obtain⟨gr,gk,data2,sl2⟩:=o2;simp only at c dd dat c2 dd2 dat2;subst c dd dat c2 dd2 dat2;refine concat_meets ⟨_,e,rfl⟩ ⟨_,e2,rfl⟩ noFill_list_add seq_list_add PySem.F.slot_list_add PySem.F.entry_list_add (PySem.F.args_list_add_2 _ _) (list_addW l b its.toArray its2.toArray n n2 none none sl sl2 (by rw [List.size_toArray,List.size_toArray];omega)) ⟨e,e2, ?_⟩;have ea:its.toArray ++ its2.toArray=(its ++ its2).toArray:=by simp
 rw [ea];exact⟨.ref _,_,I.lnew (t':=s.toks) (r.append r2) (by rw [List.length_append];omega),rfl,q _ I.fresh⟩
def d_8:D→D→R W
 | .int i, .int j=> .ok (.sh (.int (i + j)))
 | .str x, .str y=>if x.length + y.length≤16777216 then .ok (.sh (.str (x ++ y))) else .no
 | .lst a, .lst b=>if a.length + b.length≤16777216 then .ok (.ow (.lst (a ++ b))) else .no
 |_,_=> .no
theorem b_1:OpD X (binaryOp .Add) d_8:=by
 intro zc s σ H x y v u Q I rx ry h;obtain⟨EX,G,a,b,g,ra,rb,o⟩:=h;cases ra with
 |int i=>
  cases rb with
  |int j=>exact dq_0 zc s σ H _ _ _ _ Q I rx ry ⟨i,j,rfl,rfl,d_7 o g (.int _)⟩
  |_=>exact False.elim o
 |str x=>
  cases rb with
  |str y=>
   simp only [d_8] at o
   split at o
   ·rename_i hz;exact cb_9 zc s σ H _ _ _ _ Q I rx ry ⟨x,y,rfl,rfl,by rw [sizeLine_eq];exact hz,d_7 o g (.str _)⟩
   ·exact o.elim
  |_=>exact False.elim o
 |lst h1 r1=>
  cases rb with
  |lst h2 r2=>
   simp only [d_8] at o
   split at o
   ·rename_i hz;exact dg_6 zc s σ H _ _ _ _ Q I rx ry ⟨_,_,_,_,rfl,rfl,g.seq h1,g.seq h2,by rw [r1.length,r2.length,sizeLine_eq];exact hz,w_7 o g (r1.append r2)⟩
   ·exact o.elim
  |_=>exact False.elim o
 |_=>cases rb <;> exact False.elim o
def intD(C:Int→Int→Bool)(f:Int→Int→Int):D→D→R W
 | .int i, .int j=>if C i j=true then .ok (.sh (.int (f i j))) else .no
 |_,_=> .no
theorem ak_0{fn:Value→Value→Sem Value}{C:Int→Int→Bool}{P:Int→Int→Prop}{f:Int→Int→Int}(h:OpR X fn (rI P fun i j=> .int (f i j)))(hC:∀i j,C i j=true→P i j):OpD X fn (intD C f):=by
 intro zc s σ H x y v u Q I rx ry q;obtain⟨EX,G,a,b,g,ra,rb,o⟩:=q;cases ra with
 |int i=>
  cases rb with
  |int j=>
   simp only [intD] at o
   split at o
   ·rename_i hc;exact h zc s σ H _ _ _ _ Q I rx ry ⟨i,j,rfl,rfl,hC i j hc,d_7 o g (.int _)⟩
   ·exact o.elim
  |_=>exact False.elim o
 |_=>cases rb <;> exact False.elim o
def subD:D→D→R W:=intD (fun _ _=>true) (fun i j=>i - j)
def mulC(i j:Int):Bool:=decide (i.natAbs < 18446744073709551616∨j.natAbs < 18446744073709551616)
def g_0:D→D→R W:=intD mulC (fun i j=>i * j)
def divC(_ j:Int):Bool:=decide (0 < j∧j.natAbs < 1361129467683753853853498429727072845824)
def v_4:D→D→R W:=intD divC (fun i j=>i / j)
def modC(_ j:Int):Bool:=decide (0 < j)
def j_0:D→D→R W:=intD modC (fun i j=>i % j)
def powC(i j:Int):Bool:=decide (0≤j∧j.natAbs≤1000000∧i.natAbs < 18446744073709551616)
def powD:D→D→R W:=intD powC (fun i j=>i ^ j.toNat)
theorem w_9:OpD X (binaryOp .Sub) subD:=ak_0 (P:=fun _ _=>True) (opI fun _ _ _ _ _ _ _ _ q=>sub_int q) fun _ _ _=>trivial
theorem b_9:OpD X (binaryOp .Mult) g_0:=ak_0 dq_1 fun i j h=>by
 have h:=of_decide_eq_true h;rcases h with h|h
 ·exact .inl ⟨by omega,by omega⟩
 ·exact .inr ⟨by omega,by omega⟩
theorem g_6:OpD X (binaryOp .FloorDiv) v_4:=ak_0 (P:=fun _ j=>0 < j∧j.natAbs < 1361129467683753853853498429727072845824) (opI fun i j _ _ _ _ _ hc q=>by
 have h1:(0:Int) < j:=hc.1;have h2:=hc.2;refine floordiv_int (by omega) ?_ (.inl (PyProof.noPylong_of_log2 ?_))
 ·rw [Int.fdiv_eq_ediv_of_nonneg i (by omega)];exact q
 ·have:j.natAbs < 2 ^ 130:=by
   have e:(2:Nat) ^ 130=1361129467683753853853498429727072845824:=by decide
   omega
  have l:j.natAbs.log2 < 130:=(Nat.log2_lt (by omega)).mpr this;omega) fun i j h=>of_decide_eq_true h
theorem d_1:OpD X (binaryOp .Mod) j_0:=ak_0 dq_2 fun i j h=>of_decide_eq_true h
theorem dg_8{i j:Int}(h:powC i j=true):CPow i j:=by
 obtain⟨h1,h2,h3⟩:=of_decide_eq_true h;refine⟨h1,by omega, ?_⟩;have e:(2:Nat) ^ 64=18446744073709551616:=by decide
 omega
theorem ci_2:OpD X (binaryOp .Pow) powD:=ak_0 dq_3 fun i j h=>dg_8 h
def cmpD(f:Int→Int→Bool):D→D→R W
 | .int i, .int j=> .ok (.sh (.bl (f i j)))
 |_,_=> .no
theorem av_1{fn:Value→Value→Sem Value}{f:Int→Int→Bool}(h:OpR X fn (rI0 fun i j=> .bl (f i j))):OpD X fn (cmpD f):=by
 intro zc s σ H x y v u Q I rx ry q;obtain⟨EX,G,a,b,g,ra,rb,o⟩:=q;cases ra with
 |int i=>
  cases rb with
  |int j=>exact h zc s σ H _ _ _ _ Q I rx ry ⟨i,j,rfl,rfl,d_7 o g (.bl _)⟩
  |_=>exact False.elim o
 |_=>cases rb <;> exact False.elim o
def ltD:D→D→R W:=cmpD fun i j=>decide (i < j)
def leD:D→D→R W:=cmpD fun i j=>decide (i≤j)
def gtD:D→D→R W:=cmpD fun i j=>decide (j < i)
def geD:D→D→R W:=cmpD fun i j=>decide (j≤i)
theorem ax_6:OpD X (compareOp .Lt) ltD:=av_1 dw_7
theorem bl_8:OpD X (compareOp .LtE) leD:=av_1 dw_8
theorem cc_7:OpD X (compareOp .Gt) gtD:=av_1 dw_9
theorem cw_2:OpD X (compareOp .GtE) geD:=av_1 dx_0
mutual
def q_9:D→PyData
 | .non=> .none
 | .bl b=> .bool b
 | .int i=> .int i
 | .str x=> .str x
 | .lst ds=> .list (i_9 ds)
 | .tup ds=> .tuple (i_9 ds)
 | .dic _=> .dict []
 | .exn _ _ _=> .dict []
 | .obj _ _ _=> .dict []
def i_9:List D→List PyData
 | []=> []
 |d::ds=>q_9 d::i_9 ds
end
mutual
theorem Has.reads(hK:X.K=K){zc:List (Addr×Obj)}{σ:Sg}{s:Shared}(I:Inv X zc σ H s){G:Hp}(g:Same G H):∀{v:V} {d:D} {u:Value},(q_9 d).canLay0=true→Has K G v d→RelV v u→∃as,Reads s.heap u (q_9 d) as
 |_,_,_,_, .non,r=>by cases r;exact⟨_, .none⟩
 |_,_,_,_, .bl b,r=>by cases r;exact⟨_, .bool b⟩
 |_,_,_,_, .int i,r=>by obtain⟨t,rfl⟩:=r;exact⟨_, .int i t⟩
 |_,_,_,_, .str x,r=>by obtain⟨t,rfl⟩:=r;exact⟨_, .str x t⟩
 |_,_,_,c, .lst h r,q=>by
  cases q;obtain⟨its,rv,⟨o,n,e,c',_,dat⟩,_⟩:=I.list (by rw [hK];exact g.seq h);obtain⟨as,z⟩:=HasL.reads hK I g c r rv;exact⟨_, .list e c' dat z⟩
 |_,_,_,c, .tup h r,q=>by
  cases q;obtain⟨its,rv,⟨o,e,c',n,dat⟩,_⟩:=I.tuple (by rw [hK];exact Same.tupS g h);obtain⟨as,z⟩:=HasL.reads hK I g c r rv;exact⟨_, .tuple e c' dat z⟩
 |_,_,_,c, .exn0 _ _,_=>absurd c Bool.false_ne_true
 |_,_,_,c, .exn1 _ _ _ _ _,_=>absurd c Bool.false_ne_true
 |_,_,_,c, .dic _ _ _,_=>absurd c Bool.false_ne_true
 |_,_,_,c, .obj _ _ _ _,_=>absurd c Bool.false_ne_true
theorem HasL.reads(hK:X.K=K){zc:List (Addr×Obj)}{σ:Sg}{s:Shared}(I:Inv X zc σ H s){G:Hp}(g:Same G H):∀{vs:List V} {ds:List D} {us:List Value},PyData.canLayAll0 (i_9 ds)=true→HasL K G vs ds→Vals vs us→∃as,ReadsAll s.heap us (i_9 ds) as
 |_,_,_,_, .nil,r=>by cases r;exact⟨_, .nil⟩
 |_,_,_,c, .cons h t,r=>by
  cases r with
  |cons r1 r2=>
   have c':(PyData.canLay0 (q_9 _) && PyData.canLayAll0 (i_9 _))=true:=c;rw [Bool.and_eq_true] at c';obtain⟨a1,z1⟩:=Has.reads hK I g c'.1 h r1;obtain⟨a2,z2⟩:=HasL.reads hK I g c'.2 t r2;exact⟨_, .cons z1 z2⟩
end
def eqC(a b:D):Bool:=(q_9 a).canLay0 && (q_9 b).canLay0 && decide ((q_9 a).depth≤60)
def eqvD(a b:D):Bool:=(q_9 a).eqv (q_9 b)
def eqD(a b:D):R W:=match a,b with
 | .str x, .str y=> .ok (.sh (.bl (decide (x=y))))
 |a,b=>if eqC a b=true then .ok (.sh (.bl (eqvD a b))) else .no
def neD(a b:D):R W:=match a,b with
 | .str x, .str y=> .ok (.sh (.bl (!decide (x=y))))
 |a,b=>if eqC a b=true then .ok (.sh (.bl (!eqvD a b))) else .no
theorem bu_1(x y:Str):decide (V.str x=V.str y)=decide (x=y):=by
 by_cases e:x=y
 ·subst e;simp
 ·rw [decide_eq_false e,decide_eq_false (fun z=>e (by injection z))]
theorem h_5(hu:X.A.units + 64 < cLine):OpD X (compareOp .Eq) eqD:=by
 intro zc s σ H x y v u Q I rx ry q;obtain⟨EX,G,a,b,g,ra,rb,o⟩:=q;unfold eqD at o
 split at o
 ·rename_i x y;cases ra;cases rb;exact dw_5 zc s σ H _ _ _ _ Q I rx ry ⟨rfl,by rw [bu_1];exact d_7 o g (.bl _)⟩
 ·split at o
  ·rename_i hc;unfold eqC at hc;rw [Bool.and_eq_true,Bool.and_eq_true] at hc;obtain⟨⟨h1,h2⟩,h3⟩:=hc;have h3:=of_decide_eq_true h3;obtain⟨as,za⟩:=Has.reads rfl I g h1 ra rx;obtain⟨bs,zb⟩:=Has.reads rfl I g h2 rb ry;refine PySem.SeqAt.compareEq_reads za zb h1 h2 ?_ ⟨.bl _,H,I,rfl,d_7 o g (.bl _)⟩;have:=Nat.min_le_left (q_9 a).depth (q_9 b).depth;omega
  ·exact o.elim
theorem v_5(hu:X.A.units + 64 < cLine):OpD X (compareOp .NotEq) neD:=by
 intro zc s σ H x y v u Q I rx ry q;obtain⟨EX,G,a,b,g,ra,rb,o⟩:=q;unfold neD at o
 split at o
 ·rename_i x y;cases ra;cases rb;exact dw_6 zc s σ H _ _ _ _ Q I rx ry ⟨rfl,by rw [bu_1];exact d_7 o g (.bl _)⟩
 ·split at o
  ·rename_i hc;unfold eqC at hc;rw [Bool.and_eq_true,Bool.and_eq_true] at hc;obtain⟨⟨h1,h2⟩,h3⟩:=hc;have h3:=of_decide_eq_true h3;obtain⟨as,za⟩:=Has.reads rfl I g h1 ra rx;obtain⟨bs,zb⟩:=Has.reads rfl I g h2 rb ry;refine PySem.SeqAt.compareNe_reads za zb h1 h2 ?_ ⟨.bl _,H,I,rfl,d_7 o g (.bl _)⟩;have:=Nat.min_le_left (q_9 a).depth (q_9 b).depth;omega
  ·exact o.elim
def flatD:D→Bool
 | .non=>true
 | .bl _=>true
 | .int _=>true
 | .str _=>true
 |_=>false
def flV:D→V
 | .bl b=> .bl b
 | .int i=> .int i
 | .str x=> .str x
 |_=> .non
theorem Has.fl{G:Hp}{d:D}(r:Has K G v d)(f:flatD d=true):v=flV d∧af_8 v=true:=by
 cases r with
 |non=>exact⟨rfl,rfl⟩
 |bl b=>exact⟨rfl,rfl⟩
 |int i=>exact⟨rfl,rfl⟩
 |str x=>exact⟨rfl,rfl⟩
 |lst _ _=>cases f
 |tup _ _=>cases f
 |exn0 _ _=>cases f
 |exn1 _ _ _ _ _=>cases f
 |dic _ _ _=>cases f
 |obj _ _ _ _=>cases f
theorem Has.ofFl{G G':Hp}{d:D}(r:Has K G v d)(f:flatD d=true):Has K G' v d:=by
 cases r with
 |non=>exact .non
 |bl b=>exact .bl b
 |int i=>exact .int i
 |str x=>exact .str x
 |lst _ _=>cases f
 |tup _ _=>cases f
 |exn0 _ _=>cases f
 |exn1 _ _ _ _ _=>cases f
 |dic _ _ _=>cases f
 |obj _ _ _ _=>cases f
theorem HasL.fl{G:Hp}:∀{vs:List V} {ds:List D},HasL K G vs ds→ds.all flatD=true→vs=ds.map flV∧vs.all af_8=true
 |_,_, .nil,_=>⟨rfl,rfl⟩
 |_,_, .cons h r,f=>by
  rw [List.all_cons,Bool.and_eq_true] at f;obtain⟨e1,e2⟩:=h.fl f.1;obtain⟨e3,e4⟩:=HasL.fl r f.2;exact⟨by rw [List.map_cons,←e1,←e3],by rw [List.all_cons,e2,e4];rfl⟩
def eqF(a b:D):Bool:=eqV (flV a) (flV b)
def u_2(d:D)(ds:List D):Bool:=ds.any fun y=>eqF y d
theorem ci_3(d:D)(ds:List D):inV (flV d) (ds.map flV)=u_2 d ds:=by
 unfold inV u_2;rw [List.any_map];rfl
def inD(neg:Bool):D→D→R W
 | .str i, .str j=> .ok (.sh (.bl (if neg then !(!(Builtin.Str.occurrences j i 0 j.length 1).isEmpty) else !(Builtin.Str.occurrences j i 0 j.length 1).isEmpty)))
 |d, .lst ds=>if(flatD d && ds.all flatD)=true then .ok (.sh (.bl (if neg then !u_2 d ds else u_2 d ds))) else .no
 |d, .tup ds=>if(flatD d && ds.all flatD)=true then .ok (.sh (.bl (if neg then !u_2 d ds else u_2 d ds))) else .no
 |_,_=> .no
theorem ci_4{EX:EXT}{G H:Hp}{x y:V}{d:D}{e:D}{Q:VK}{neg:Bool}(g:Same G H)(ra:Has X.K G x d)(rb:Has X.K G y e)(hd:∀i j,d= .str i→e= .str j→False)(o:Out X.K EX G H (inD neg d e) Q):rIn X.K neg x y H Q:=by
 cases rb with
 |lst h r=>
  rename_i ds;have o':Out X.K EX G H (if(flatD d && ds.all flatD)=true then .ok (.sh (.bl (if neg then !u_2 d ds else u_2 d ds))) else .no) Q:=by
   cases d <;> exact o
  split at o'
  ·rename_i f;rw [Bool.and_eq_true] at f;obtain⟨e1,e2⟩:=ra.fl f.1;obtain⟨e3,e4⟩:=r.fl f.2;refine⟨_,_,rfl, .inl (g.seq h),e2,e4, ?_⟩;rw [e1,e3,ci_3];exact d_7 o' g (.bl _)
  ·exact o'.elim
 |tup h r=>
  rename_i ds;have o':Out X.K EX G H (if(flatD d && ds.all flatD)=true then .ok (.sh (.bl (if neg then !u_2 d ds else u_2 d ds))) else .no) Q:=by
   cases d <;> exact o
  split at o'
  ·rename_i f;rw [Bool.and_eq_true] at f;obtain⟨e1,e2⟩:=ra.fl f.1;obtain⟨e3,e4⟩:=r.fl f.2;refine⟨_,_,rfl, .inr (Same.tupS g h),e2,e4, ?_⟩;rw [e1,e3,ci_3];exact d_7 o' g (.bl _)
  ·exact o'.elim
 |str j=>
  cases d with
  |str i=>exact(hd i j rfl rfl).elim
  |_=>exact False.elim o
 |_=>cases d <;> exact False.elim o
theorem ds_2:OpD X (compareOp .In) (inD false):=by
 intro zc s σ H x y v u Q I rx ry q;obtain⟨EX,G,a,b,g,ra,rb,o⟩:=q
 by_cases hs:∃i j,a= .str i∧b= .str j
 ·obtain⟨i,j,rfl,rfl⟩:=hs;cases ra;cases rb;exact cm_7 zc s σ H _ _ _ _ Q I rx ry ⟨i,j,rfl,rfl,d_7 o g (.bl _)⟩
 ·exact cn_5 zc s σ H _ _ _ _ Q I rx ry (ci_4 g ra rb (fun i j e1 e2=>hs ⟨i,j,e1,e2⟩) o)
theorem bg_5:OpD X (compareOp .NotIn) (inD true):=by
 intro zc s σ H x y v u Q I rx ry q;obtain⟨EX,G,a,b,g,ra,rb,o⟩:=q
 by_cases hs:∃i j,a= .str i∧b= .str j
 ·obtain⟨i,j,rfl,rfl⟩:=hs;cases ra;cases rb;exact bk_8 zc s σ H _ _ _ _ Q I rx ry ⟨i,j,rfl,rfl,d_7 o g (.bl _)⟩
 ·exact bk_7 zc s σ H _ _ _ _ Q I rx ry (ci_4 g ra rb (fun i j e1 e2=>hs ⟨i,j,e1,e2⟩) o)
def h_6:List D→R W
 | [.str x]=>if x.length≤16777216 then .ok (.sh (.int x.length)) else .no
 | [.lst ds]=> .ok (.sh (.int ds.length))
 | [.tup ds]=> .ok (.sh (.int ds.length))
 |_=> .no
theorem c_8:y_4 X (.builtin "len") h_6:=by
 intro zc s σ H vs us Q I rv q;obtain⟨EX,G,ds,g,r,o⟩:=q;cases r with
 |nil=>exact False.elim o
 |cons h t=>
  cases t with
  |cons _ _=>cases h <;> exact False.elim o
  |nil=>
   cases h with
   |str x=>
    simp only [h_6] at o
    split at o
    ·rename_i hz;exact bk_9 zc s σ H _ _ Q I rv ⟨x,rfl,by rw [sizeLine_eq];exact hz,d_7 o g (.int _)⟩
    ·exact o.elim
   |lst h r=>exact aj_5 zc s σ H _ _ Q I rv ⟨_,_,rfl, .inl (g.seq h),by rw [r.length];exact d_7 o g (.int _)⟩
   |tup h r=>exact aj_5 zc s σ H _ _ Q I rv ⟨_,_,rfl, .inr (Same.tupS g h),by rw [r.length];exact d_7 o g (.int _)⟩
   |_=>exact False.elim o
def maxD:List D→R W
 | [.int i, .int j]=> .ok (.sh (.int (if j > i then j else i)))
 |_=> .no
def minD:List D→R W
 | [.int i, .int j]=> .ok (.sh (.int (if j < i then j else i)))
 |_=> .no
theorem ak_1{G:Hp}{ds:List D}(r:HasL K G vs ds){P:Prop}(h:∀i j,vs= [.int i, .int j]→ds= [.int i, .int j]→P)(n:(∀i j,ds≠ [.int i, .int j])→P):P:=by
 by_cases e:∃i j,ds= [.int i, .int j]
 ·obtain⟨i,j,rfl⟩:=e;cases r with
  |cons a t=>
   cases t with
   |cons b t2=>
    cases t2;cases a;cases b;exact h i j rfl rfl
 ·exact n fun i j z=>e ⟨i,j,z⟩
theorem dg_9{ds:List D}(h:∀i j,ds≠ [.int i, .int j]):maxD ds= .no:=by
 unfold maxD
 split
 ·rename_i i j;exact absurd rfl (h i j)
 ·rfl
theorem dh_0{ds:List D}(h:∀i j,ds≠ [.int i, .int j]):minD ds= .no:=by
 unfold minD
 split
 ·rename_i i j;exact absurd rfl (h i j)
 ·rfl
theorem co_4(hc:X.calm=true):y_4 X (.builtin "max") maxD:=by
 intro zc s σ H vs us Q I rv q;obtain⟨EX,G,ds,g,r,o⟩:=q;refine ak_1 r (fun i j e1 e2=> ?_) fun n=> ?_
 ·subst e1 e2;exact cm_8 hc zc s σ H _ _ Q I rv ⟨i,j,rfl,d_7 o g (.int _)⟩
 ·rw [dg_9 n] at o;exact o.elim
theorem bg_6(hc:X.calm=true):y_4 X (.builtin "min") minD:=by
 intro zc s σ H vs us Q I rv q;obtain⟨EX,G,ds,g,r,o⟩:=q;refine ak_1 r (fun i j e1 e2=> ?_) fun n=> ?_
 ·subst e1 e2;exact cm_9 hc zc s σ H _ _ Q I rv ⟨i,j,rfl,d_7 o g (.int _)⟩
 ·rw [dh_0 n] at o;exact o.elim
def ci_5:List D→R W
 | [.int i]=>if i.natAbs.log2 < 1920 then .ok (.sh (.str (toString i))) else .no
 |_=> .no
theorem cc_8:y_4 X (.type "str") ci_5:=by
 intro zc s σ H vs us Q I rv q;obtain⟨EX,G,ds,g,r,o⟩:=q;cases r with
 |nil=>exact False.elim o
 |cons h t=>
  cases t with
  |cons _ _=>cases h <;> exact False.elim o
  |nil=>
   cases h with
   |int i=>
    simp only [ci_5] at o
    split at o
    ·rename_i hz;exact bk_3 zc s σ H _ _ Q I rv ⟨i,rfl,hz,d_7 o g (.str _)⟩
    ·exact o.elim
   |_=>exact False.elim o
def r_0:List D→R W
 | [.lst ds]=> .ok (.ow (.lst ds))
 | [.tup ds]=> .ok (.ow (.lst ds))
 |_=> .no
theorem m_9:y_4 X (.type "list") r_0:=by
 intro zc s σ H vs us Q I rv q;obtain⟨EX,G,ds,g,r,o⟩:=q;cases r with
 |nil=>exact False.elim o
 |cons h t=>
  cases t with
  |cons _ _=>cases h <;> exact False.elim o
  |nil=>
   cases h with
   |lst h r=>exact aj_6 zc s σ H _ _ Q I rv ⟨_,_,rfl, .inl (g.seq h),w_7 o g r⟩
   |tup h r=>exact aj_6 zc s σ H _ _ Q I rv ⟨_,_,rfl, .inr (Same.tupS g h),w_7 o g r⟩
   |_=>exact False.elim o
def bu_2:List D→R W
 | [.lst ds]=> .ok (.sh (.tup ds))
 | [.tup ds]=> .ok (.sh (.tup ds))
 |_=> .no
theorem ax_7:y_4 X (.type "tuple") bu_2:=by
 intro zc s σ H vs us Q I rv q;obtain⟨EX,G,ds,g,r,o⟩:=q;cases r with
 |nil=>exact False.elim o
 |cons h t=>
  cases t with
  |cons _ _=>cases h <;> exact False.elim o
  |nil=>
   cases h with
   |lst h r=>
    refine af_9 zc s σ H _ _ Q I rv ⟨_,_,rfl, .inl ⟨g.seq h,fun p hp=> ?_⟩⟩;exact o (.ref p) _ _ (Step.new g hp _) (.tup (SqT.of b_3) (r.mono (l_1 (g.free hp) _)))
   |tup h r=>exact af_9 zc s σ H _ _ Q I rv ⟨_,_,rfl, .inr ⟨Same.tupS g h,d_7 o g (.tup h r)⟩⟩
   |_=>exact False.elim o
end
structure RoomC(c:Bool)(k:Nat)(A:Around):Prop where
 hd:c=true→A.handled=none
 dp:A.depth + 3 * k + 5 < recursionLimit
 un:A.units + 16 * k + 200 < cLine
theorem RoomC.mono{c:Bool}{j k:Nat}{A:Around}(r:RoomC c k A)(h:j≤k):RoomC c j A:=⟨r.hd,by have:=r.dp;omega,by have:=r.un;omega⟩
theorem RoomC.deeper{c:Bool}{k:Nat}{A:Around}(r:RoomC c (k + 1) A)(env:Env):RoomC c k (A.deeper env):=
 ⟨r.hd,by have:=r.dp;show A.depth + 1 + 3 * k + 5 < _;omega,by have:=r.un;show A.units + 3 + 16 * k + 200 < _;omega⟩
theorem RoomC.make{c:Bool}{k:Nat}{A:Around}(r:RoomC c (k + 1) A)(C:Addr)(us:List Value)(kw:List (Str×Value)):RoomC c k (A.under (.builtin "type.__call__" ⟨.ref C::us,kw⟩)):=
 ⟨r.hd,by have:=r.dp;rw [cc_2];omega,by have:=r.un;rw [cc_3];omega⟩
theorem RoomC.loose{c:Bool}{k:Nat}{A:Around}(r:RoomC c k A):RoomC false k A:=⟨fun z=>absurd z Bool.false_ne_true,r.dp,r.un⟩
theorem RoomC.mark{c:Bool}{k:Nat}{A:Around}(r:RoomC c k A)(h:Option Value):RoomC false k (A.mark h):=⟨fun z=>absurd z Bool.false_ne_true,r.dp,r.un⟩
theorem RoomC.of{k:Nat}{A:Around}(r:Room k A):RoomC true k A:=⟨fun _=>r.hd,r.dp,r.un⟩
structure FnX(P:Program)(w:World)(K:Frag)(mg:Str→Option Value)(base:Heap)(c:Bool)(k:Nat)(f:Addr)(fd:FuncData)(ps:List Str)(sp:Sp):Prop where
 len:∀vs H Q E,sp vs H Q E→vs.length=ps.length
 run:∀(A:Around) (outer:List Env) (s:Shared) (H:Hp) (args:Args) (us:List Value) (vs:List V) (Q:VK) (E:XK),RoomC c k A→Env0 P w K mg base A outer s H→BindsTo s fd args (ps.zip us)→Vals vs us→sp vs H Q E→
  codeAny (model P w) A (.call (.ref f) args) (CR (CXr P w) outer P w H s Q E) s
abbrev cxN(c:Bool)(P:Program)(w:World)(K:Frag)(mg:Str→Option Value)(base:Heap)(N:List Str)(qual:Str)(scope:Scope)(f:Addr)(cd:Value)(A:Around)(outer:List Env)(s:Shared)(H:Hp)(E:XK):Cx:=
 {cxOf (CXr P w) P w K mg base N qual scope f cd A outer s H E with calm:=c}
theorem cc_9{c:Bool}{w:World}{N ps:List Str}{qual:Str}{scope:Scope}{f:Addr}{cd:Value}{A:Around}{outer:List Env}{s s1:Shared}{E:XK}{vs:List V}
  (S:FnScope N ps scope) (hd:c=true→A.handled=none) (e0:Env0 P w K mg base A outer s H) (hl:vs.length=ps.length) (r:Vals vs us)
  (x:InCallC s s.heap.objs.size (bindL (envOfC qual scope s.heap.objs.size f cd).kindOf (ps.zip us) fun _=>none) (cellsFrom (s.heap.objs.size + 1) scope.names []) (bindC (envOfC qual scope s.heap.objs.size f cd).kindOf (ps.zip us) fun _=>none) s1):
  Inv (cxN c P w K mg base N qual scope f cd A outer s H E) [] (o_3 N vs) H s1:=by
 have I:=cn_2 (CX:=CXr P w) (E:=E) (qual:=qual) (f:=f) (cd:=cd) (A:={A with handled:=none}) S rfl ⟨e0.frames,e0.mod,e0.bs,e0.bsz,e0.funs,e0.frf,e0.hok,e0.bare⟩ hl r x;exact⟨⟨I.ok.mod,I.ok.kind,I.ok.glob,I.ok.blt,I.ok.above,I.ok.inj,I.ok.has,I.ok.cab,hd,Around.frames_deeper e0.frames,I.ok.stk,I.ok.exf,I.ok.bs,I.ok.bsz,I.ok.noex,I.ok.exfs,I.ok.funs,I.ok.frf⟩,
  I.os,I.bare,I.base,I.loc,I.cell,I.free,I.freeC,I.pin,I.hok,I.len⟩
theorem ds_3{c:Bool}{w:World}{k:Nat}{f:Addr}{name qual:Str}{params:Arguments}{body:List Stmt}{scope:Scope}{dV kV doc pm zn ct oc:Value}{an od:Option Addr}
  {osl:Array (Option Value)} {N ps:List Str} {sp:Sp} (lk:K.lookup f=some ⟨oc,od, .func (fnOf name qual params body scope dV kV doc pm an zn ct),osl⟩) (hcd:codeIn K zn qual=true) (S:FnScope N ps scope)
  (len:∀vs H Q E,sp vs H Q E→vs.length=ps.length)
  (zh:∀(A:Around) (outer:List Env) (s:Shared) (H:Hp) (vs:List V) (Q:VK) (E:XK),RoomC c k (A.deeper (envOfC qual scope s.heap.objs.size f zn))→sp vs H Q E→
   ∃t,PSs (cxN c P w K mg base N qual scope f zn A outer s H E) body t∧t {nx:=fun _ H'=>Q .non H',rt:=Q} (o_3 N vs) H):
  FnX P w K mg base c (k + 1) f (fnOf name qual params body scope dV kV doc pm an zn ct) ps sp:=by
 refine⟨len,fun A outer s H args us vs Q E hr e0 hb r hsp=> ?_⟩;have hl:=len _ _ _ _ hsp;have KX:K.In s.heap:=e0.mod.kin.keeps fun b o e=>(e0.bs b o e).1;have lim:s.heap.NoLimit:=e0.mod.nolimit.keeps fun b o e=>(e0.bs b o e).1;have bw:∀y∈ps.zip us,scope.names.lookup y.1=some .local∨(scope.names.lookup y.1=some .cell∧((cellsFrom (s.heap.objs.size + 1) scope.names []).lookup y.1).isSome=true):=fun⟨n,v⟩ hy=>by
  rcases S.par n (List.of_mem_zip hy).1 with q|q
  ·exact .inl q
  ·exact .inr ⟨q,cellsFrom_some _ _ _ (.inl q)⟩
 have dp:A.depth < recursionLimit:=by have:=hr.dp;omega
 refine codeAny_call_function dp (KX _ _ lk) rfl S.co S.gen rfl (codeRec_of KX hcd) (hb _ _ _ _ ?_);refine wpAny_newFunctionEnv_cells S.kind bw fun env he s1 x=> ?_;subst he;refine⟨lim.keeps x.toInCall.keep,codeAny_func ?_⟩;obtain⟨t,ht,hq⟩:=zh A outer s H vs Q E (hr.deeper _) hsp;have I:Inv (cxN c P w K mg base N qual scope f zn A outer s H E) [] (o_3 N vs) H s1:=cc_9 S hr.hd e0 hl r x;refine wpAny_mono (ht [] s1 (o_3 N vs) H _ I hq) (fun fl s' hs=> ?_) fun e s' hs=>hs;have fin:∀{σ':Sg} {H':Hp} {v:V} {u:Value},Inv (cxN c P w K mg base N qual scope f zn A outer s H E) [] σ' H' s'→RelV v u→Q v H'→CE outer P w H s Q u s':=
  fun{σ' H' v u} J rv q=>⟨v,H',J.os,J.bare,J.base,J.hok,rv,q⟩
 cases fl with
 |ret u=>
  obtain⟨v,σ',H',J,rv,q⟩:=hs;exact fin J rv q
 |next=>
  obtain⟨σ',H',J,q⟩:=hs;exact fin (v:=V.non) (u:=Value.none) J rfl q
 |brk=>
  obtain⟨_,_,_,q⟩:=hs;exact False.elim q
 |cont=>
  obtain⟨_,_,_,q⟩:=hs;exact False.elim q
theorem Fun.okX{c:Bool}{w:World}{x qual:Str}{st:Stmt}{f:Addr}{N ps:List Str}{k:Nat}{sp:Sp}(F:Fun K x qual st f fd)(S:FnScope N ps (b_2 st))(len:∀vs H Q E,sp vs H Q E→vs.length=ps.length)
  (zh:∀(zn:Value) (A:Around) (outer:List Env) (s:Shared) (H:Hp) (vs:List V) (Q:VK) (E:XK),RoomC c k (A.deeper (envOfC qual (b_2 st) s.heap.objs.size f zn))→sp vs H Q E→
   ∃t,PSs (cxN c P w K mg base N qual (b_2 st) f zn A outer s H E) (e_1 st) t∧t {nx:=fun _ H'=>Q .non H',rt:=Q} (o_3 N vs) H):FnX P w K mg base c (k + 1) f fd ps sp:=by
 obtain⟨oc,od,kV,doc,pm,an,zn,ct,osl,rfl,lk,hcd⟩:=F.ex;exact ds_3 lk hcd S len fun A outer s H vs Q E hr hsp=>zh zn A outer s H vs Q E hr hsp
def Lk(X:Cx)(EX:EXS):Prop:=∀(zc:List (Addr×Obj)) (σ:Sg) (H:Hp) (s:Shared) (e:Value) (s':Shared),Inv X zc σ H s→CXr X.prog X.w X.stack H s (EXE X.K (EX σ)) e s'→X.xe e s'
theorem t_2:Lk X q_8:=fun zc σ H s e s' I c=>by
 obtain⟨a,C,dx,T,H',_,_,_,_,_,_,_,_,_,_,x,G,_,_,q⟩:=c;exact False.elim q
theorem cd_0{c:Bool}{w:World}{N:List Str}{qual:Str}{scope:Scope}{f:Addr}{cd:Value}{A:Around}{outer:List Env}{s:Shared}{E:XK}:
  Lk (cxN c P w K mg base N qual scope f cd A outer s H E) (fun _=>EXof K E):=fun zc σ H s e s' I h=>cn_8 I h fun cls dx H' q=>q.of
def spX(K:Frag)(n:Nat)(F:List D→R W):Sp:=fun vs H Q E=>vs.length=n∧∃G ds,Same G H∧HasL K G vs ds∧Out K (EXof K E) G H (F ds) Q
def eFn(n:Nat)(F:List D→R W)(fa:FA):FE:=fun δ=>(fa δ).bind fun ds=>if ds.length=n then F ds else .no
def FnD(P:Program)(w:World)(K:Frag)(mg:Str→Option Value)(base:Heap)(c:Bool)(x:Str)(k:Nat)(ps:List Str)(F:List D→R W):Prop:=
 ∃f fd,FnX P w K mg base c k f fd ps (spX K ps.length F)∧mg x=some (.ref f)∧keepIn K (.ref f)=true∧Binds K fd ps []
section
variable{X:Cx}{EX:EXS}{e:Expr}{es:List Expr}{fa:FA}{x:Str}{pp pos:Pos}{c:Bool}{k k':Nat}{ps:List Str}{F:List D→R W}
theorem av_2{zc:List (Addr×Obj)}{σ:Sg}{s:Shared}{Q:VK}{f:Addr}{sp:Sp}(F:FnX X.prog X.w X.K X.mg X.base c k f fd ps sp)(hr:RoomC c k X.A)(hb:Binds X.K fd ps [])(lk:Lk X EX)
  (I:Inv X zc σ H s) (r:Vals vs us) (h:sp vs H Q (EXE X.K (EX σ))):wpAny (model X.prog X.w) X.A (call (.ref f) us) (EP X zc σ Q) X.xe s:=by
 have hl:us.length=ps.length:=by rw [←r.length];exact F.len _ _ _ _ h
 have hb':=hb s us I.kIn (by rw [List.append_nil];exact hl);rw [List.append_nil] at hb';refine wpAny_call (codeAny_mono (F.run X.A X.stack s H ⟨us, []⟩ us vs Q _ hr I.env0 hb' r h) fun r s' hq=> ?_);cases r with
 |error e=>exact lk zc σ H s e s' I hq
 |ok fl=>
  cases fl with
  |ret u=>exact I.after hq
  |next=>exact False.elim hq
  |brk=>exact False.elim hq
  |cont=>exact False.elim hq
theorem a_7(hr:RoomC c k' X.A)(lk:Lk X EX)(h:FnD X.prog X.w X.K X.mg X.base c x k ps F)(ha:AD X EX (e::es) fa)(hk:k≤k':=by decide)(hg:Gl X x:=by rfl)(hdb:(x ==("__debug__" :Str))=false:=by decide)
  (he:starEach (e::es) X.env=(false,eval e X.env)::starEach es X.env:=by rfl) (hpl:(backTo pos (starEach es X.env)).any (·.1)=false:=by rfl):
  ED X EX (.Call (.Name x pp) (e::es) [] pos) (eFn ps.length F fa):=by
 obtain⟨f,fd,ok,hm,kp,hb⟩:=h;intro zc s σ H Q I q;obtain⟨G,δ,g0,s0,o⟩:=q;refine wpAny_Call_Name_kw (w_6 I hg hm ?_ hdb);have ta:tDa X.K EX fa σ H fun vs H1=>spX X.K ps.length F vs H1 Q (EXE X.K (EX σ)):=by
  refine tDa.seq g0 s0 o fun ds vs G' H' _ st r o'=> ?_
  split at o'
  ·rename_i hl;refine⟨by rw [r.length];exact hl,G',ds,st.gh,r, ?_⟩;cases q:F ds with
   |ok w=>rw [q] at o';exact o'
   |ex x=>rw [q] at o';exact EXof.in o'
   |no=>rw [q] at o';exact o'.elim
  ·exact o'.elim
 refine callWith_K (h₀:=X.base) I.ok.mod.kin kp (thn (ha pos zc s σ H _ I ta) fun us s1 ⟨vs,H1,I1,r,q⟩=>⟨I1.kIn, ?_⟩) he hpl;exact av_2 ok (hr.mono hk) hb lk I1 r q
end
inductive Sl where
 |no|sh (d:D)|ow (d:D)|tr (t:Tn)|lk (d:D)|lt (t:Tn)
abbrev SE:=List Sl
inductive Fl where
 |nx (Δ:SE)|rt (w:W)|bk (Δ:SE)|ct (Δ:SE)|ex (x:Xn) (Δ:SE)|no
abbrev FS:=SE→Fl
def Sl.pub:Sl→Option D
 | .sh d=>some d
 |_=>none
def Sl.any:Sl→Option D
 | .sh d=>some d
 | .ow d=>some d
 | .tr t=>some t.d
 | .lk d=>some d
 | .lt t=>some t.d
 | .no=>none
def Sl.give:Sl→Sl
 | .ow d=> .sh d
 | .tr t=> .sh t.d
 |s=>s
def Sl.own:Sl→Option Tn
 | .ow d=>some (Tn.of d)
 | .tr t=>some t
 | .lk d=>some (Tn.of d)
 | .lt t=>some t
 |_=>none
def vsh(Δ:SE):DE:=Δ.map Sl.pub
def vall(Δ:SE):DE:=Δ.map Sl.any
def gall(Δ:SE):SE:=Δ.map Sl.give
abbrev OS:=Nat→AS
structure HB where
 h:Hp
 b:Nat→Addr
structure Ev(K:Frag)(H0:HB)(G0 G H:Hp)(σ:Sg)(Δ:SE)(A:OS):Prop where
 st:Step G0 H0.h G H
 len:σ.length=Δ.length
 sh:∀(i:Nat) (d:D),Δ[i]? =some (.sh d)→∃v,σ[i]? =some (some v)∧Has K G v d
 ow:∀(i:Nat) (s:Sl) (t:Tn),Δ[i]? =some s→s.own=some t→∃v,σ[i]? =some (some v)∧Ow K G H v t (A i)
 out:∀(i:Nat) (a:Addr),A i a→G a=none∧H0.h a=none∧H a≠none
 dj:∀(i j:Nat) (a:Addr),A i a→A j a→i=j
 lk:∀(i:Nat) (d:D),Δ[i]? =some (.lk d)→σ[i]? =some (some (.ref (H0.b i)))
 lt:∀(i:Nat) (t:Tn),Δ[i]? =some (.lt t)→σ[i]? =some (some (.ref (H0.b i)))
def u_9(G H:Hp)(A:OS):Hp:=q_1 G H fun b=>∃i,A i b
structure MStep(S:AS)(G H G' H':Hp):Prop where
 hh:∀b o,¬S b→H b=some o→H' b=some o
 al:∀b,H b≠none→H' b≠none
 gh:Same G' H'
 gg:Same G G'
 nw:∀b,G b=none→H b≠none→G' b=none
structure MStep2(S:AS)(G H G' H':Hp):Prop where
 hh:∀b o,¬S b→H b=some o→H' b=some o
 gh:Same G' H'
 gg:Same G G'
 nw:∀b,¬S b→G b=none→H b≠none→G' b=none
theorem MStep.weak{S:AS}{G H G' H':Hp}(m:MStep S G H G' H'):MStep2 S G H G' H':=⟨m.hh,m.gh,m.gg,fun b _=>m.nw b⟩
theorem Step.m{S:AS}{G H G' H':Hp}(s:Step G H G' H'):MStep S G H G' H':=⟨fun b o _ q=>s.hh b o q,fun b n z=>n (s.hh.free z),s.gh,s.gg,s.nw⟩
theorem MStep.andThen{S:AS}{G H G1 H1 G2 H2:Hp}(a:MStep S G H G1 H1)(b:Step G1 H1 G2 H2):MStep S G H G2 H2:=
 ⟨fun c o n q=>b.hh c o (a.hh c o n q),fun c n z=>a.al c n (b.hh.free z),b.gh,a.gg.trans b.gg,fun c e n=>b.nw c (a.nw c e n) (a.al c n)⟩
theorem MStep.write{S:AS}{G H:Hp}(g:Same G H){a:Addr}(hs:S a)(n:G a=none)(o:HO):MStep S G H G (L2.upd H a o):=
 ⟨fun b o' nb q=>by rw [b_0 (fun z=>nb (by rw [z];exact hs))];exact q,fun b nb=>by
  by_cases z:b=a
  ·subst z;rw [b_3];simp
  ·rw [b_0 z];exact nb,fun b o' q=>by
  by_cases z:b=a
  ·subst z;rw [n] at q;cases q
  ·rw [b_0 z];exact g b o' q,Same.refl _,fun _ e _=>e⟩
def setA(A:OS)(i:Nat)(S:AS):OS:=fun j=>if j=i then S else A j
theorem j_4{A:OS}{i:Nat}{S:AS}:setA A i S i=S:=if_pos rfl
theorem j_1{A:OS}{i j:Nat}{S:AS}(h:j≠i):setA A i S j=A j:=if_neg h
section
variable{K:Frag}{H0:HB}{G0 G H G' H':Hp}{σ:Sg}{Δ:SE}{A:OS}
theorem Ev.gsh(E:Ev K H0 G0 G H σ Δ A):HasS K G σ (vsh Δ):=⟨by rw [E.len];unfold vsh;rw [List.length_map],fun i d q=>by
 unfold vsh at q;rw [List.getElem?_map] at q;cases e:Δ[i]? with
 |none=>rw [e] at q;cases q
 |some z=>
  rw [e] at q;cases z with
  |sh d'=>cases q;exact E.sh i d e
  |_=>cases q⟩
theorem Ev.aH(E:Ev K H0 G0 G H σ Δ A):Same (u_9 G H A) H:=fun b o q=>by
 unfold u_9 q_1 at q
 split at q
 ·exact q
 ·exact E.st.gh b o q
theorem Ev.aG(E:Ev K H0 G0 G H σ Δ A):Same G (u_9 G H A):=fun b o q=>by
 unfold u_9 q_1
 split
 ·rename_i hb;obtain⟨i,hb⟩:=hb;rw [(E.out i b hb).1] at q;cases q
 ·exact q
theorem Ev.aStep(E:Ev K H0 G0 G H σ Δ A):Step G0 H0.h (u_9 G H A) H:=
 ⟨E.st.hh,E.aH,E.st.gg.trans E.aG,fun b n z=>by
  unfold u_9 q_1
  split
  ·rename_i hb;obtain⟨i,hb⟩:=hb;exact absurd (E.out i b hb).2.1 z
  ·exact E.st.nw b n z⟩
theorem Ev.aIn{A:OS}{G H:Hp}{i:Nat}{b:Addr}{o:HO}(hb:A i b)(q:H b=some o):u_9 G H A b=some o:=by
 unfold u_9 q_1;rw [if_pos ⟨i,hb⟩];exact q
theorem Ev.gall(E:Ev K H0 G0 G H σ Δ A):HasS K (u_9 G H A) σ (vall Δ):=⟨by rw [E.len];unfold vall;rw [List.length_map],fun i d q=>by
 unfold vall at q;rw [List.getElem?_map] at q;cases e:Δ[i]? with
 |none=>rw [e] at q;cases q
 |some z=>
  rw [e] at q;cases z with
  |sh d'=>
   cases q;obtain⟨v,e1,r⟩:=E.sh i d e;exact⟨v,e1,r.mono E.aG⟩
  |ow d'=>
   cases q;obtain⟨v,e1,t⟩:=E.ow i _ _ e rfl;have r:=t.has E.aG fun b o hb q=>Ev.aIn hb q;rw [Tn.of_d] at r;exact⟨v,e1,r⟩
  |tr t'=>
   cases q;obtain⟨v,e1,t⟩:=E.ow i _ _ e rfl;exact⟨v,e1,t.has E.aG fun b o hb q=>Ev.aIn hb q⟩
  |lk d'=>
   cases q;obtain⟨v,e1,t⟩:=E.ow i _ _ e rfl;have r:=t.has E.aG fun b o hb q=>Ev.aIn hb q;rw [Tn.of_d] at r;exact⟨v,e1,r⟩
  |lt t'=>
   cases q;obtain⟨v,e1,t⟩:=E.ow i _ _ e rfl;exact⟨v,e1,t.has E.aG fun b o hb q=>Ev.aIn hb q⟩
  |no=>cases q⟩
theorem Ev.grow(E:Ev K H0 G0 G H σ Δ A)(s:Step G H G' H'):Ev K H0 G0 G' H' σ Δ A:=
 ⟨E.st.trans s,E.len,fun i d e=>let⟨v,e1,r⟩:=E.sh i d e;⟨v,e1,r.mono s.gg⟩,fun i z d e z'=>let⟨v,e1,t⟩:=E.ow i z d e z';⟨v,e1,t.mono s.gg (fun b o _ q=>s.hh b o q) fun _ q=>q⟩,
  fun i a ha=>let⟨h1,h2,h3⟩:=E.out i a ha;⟨s.nw a h1 h3,h2,fun z=>h3 (s.hh.free z)⟩,E.dj,E.lk,E.lt⟩
theorem Ev.keep(E:Ev K H0 G0 G H σ Δ A)(s:Same H H'):Ev K H0 G0 G H' σ Δ A:=
 E.grow ⟨s,E.st.gh.trans s,Same.refl _,fun _ n _=>n⟩
theorem i_3{α:Type}{l:List α}{i j:Nat}{x y:α}(h:(l.set i x)[j]? =some y):(i=j∧y=x)∨(i≠j∧l[j]? =some y):=by
 by_cases e:i=j
 ·subst e;rw [List.getElem?_set] at h;simp only [if_true] at h
  split at h
  ·exact .inl ⟨rfl,(Option.some.inj h).symm⟩
  ·cases h
 ·rw [List.getElem?_set_ne e] at h;exact .inr ⟨e,h⟩
theorem cd_1{α:Type}{l:List α}{i:Nat}{x y:α}(h:(l.set i x)[i]? =some y):i < l.length:=by
 by_cases hh:i < l.length
 ·exact hh
 ·rw [List.getElem?_eq_none (by rw [List.length_set];omega)] at h;cases h
theorem Ev.put(E:Ev K H0 G0 G H σ Δ A){i:Nat}{d:D}(r:Has K G v d):Ev K H0 G0 G H (σ.set i (some v)) (Δ.set i (.sh d)) A:=by
 refine⟨E.st,by rw [List.length_set,List.length_set];exact E.len,fun j d' e=> ?_,fun j z d' e zo=> ?_,E.out,E.dj,fun j d' e=> ?_,fun j d' e=> ?_⟩
 ·rcases i_3 e with⟨rfl,q⟩|⟨n,q⟩
  ·cases q;exact⟨v,by rw [List.getElem?_set_self (by rw [E.len];exact cd_1 e)],r⟩
  ·obtain⟨v',e1,r'⟩:=E.sh j d' q;exact⟨v',by rw [List.getElem?_set_ne n];exact e1,r'⟩
 ·rcases i_3 e with⟨rfl,q⟩|⟨n,q⟩
  ·subst q;cases zo
  ·obtain⟨v',e1,t⟩:=E.ow j z d' q zo;exact⟨v',by rw [List.getElem?_set_ne n];exact e1,t⟩
 ·rcases i_3 e with⟨rfl,q⟩|⟨n,q⟩
  ·cases q
  ·rw [List.getElem?_set_ne n];exact E.lk j d' q
 ·rcases i_3 e with⟨rfl,q⟩|⟨n,q⟩
  ·cases q
  ·rw [List.getElem?_set_ne n];exact E.lt j d' q
theorem Ev.putO(E:Ev K H0 G0 G H σ Δ A){i:Nat}{z:Sl}{d:Tn}{S:AS}(fr:∀a,S a→H0.h a=none∧G a=none∧H a≠none)(zo:z.own=some d)(zl:∀d,z≠ .lk d)(t:Ow K G H v d S)(nw:∀j a,A j a→¬S a)(zt:∀d,z= .lt d→v= .ref (H0.b i):=by intro _ z;cases z):
  Ev K H0 G0 G H (σ.set i (some v)) (Δ.set i z) (setA A i S):=by
 refine⟨E.st,by rw [List.length_set,List.length_set];exact E.len,fun j d' e'=> ?_,fun j z' d' e' zo'=> ?_,fun j a ha=> ?_,fun j j' a h1 h2=> ?_,fun j d' e'=> ?_,fun j d' e'=> ?_⟩
 ·rcases i_3 e' with⟨rfl,q⟩|⟨nn,q⟩
  ·subst q;cases zo
  ·obtain⟨v',e1,r'⟩:=E.sh j d' q;exact⟨v',by rw [List.getElem?_set_ne nn];exact e1,r'⟩
 ·rcases i_3 e' with⟨rfl,q⟩|⟨nn,q⟩
  ·subst q;rw [zo] at zo';cases zo';exact⟨v,by rw [List.getElem?_set_self (by rw [E.len];exact cd_1 e')],by rw [j_4];exact t⟩
  ·obtain⟨v',e1,x⟩:=E.ow j z' d' q zo';exact⟨v',by rw [List.getElem?_set_ne nn];exact e1,by rw [j_1 (Ne.symm nn)];exact x⟩
 ·by_cases z:j=i
  ·subst z;rw [j_4] at ha;obtain⟨a1,a2,a3⟩:=fr a ha;exact⟨a2,a1,a3⟩
  ·rw [j_1 z] at ha;exact E.out j a ha
 ·by_cases z:j=i
  ·by_cases z':j'=i
   ·rw [z,z']
   ·rw [z,j_4] at h1;rw [j_1 z'] at h2;exact absurd h1 (nw j' a h2)
  ·by_cases z':j'=i
   ·rw [j_1 z] at h1;rw [z',j_4] at h2;exact absurd h2 (nw j a h1)
   ·rw [j_1 z] at h1;rw [j_1 z'] at h2;exact E.dj j j' a h1 h2
 ·rcases i_3 e' with⟨rfl,q⟩|⟨nn,q⟩
  ·exact absurd q.symm (zl d')
  ·rw [List.getElem?_set_ne nn];exact E.lk j d' q
 ·rcases i_3 e' with⟨rfl,q⟩|⟨nn,q⟩
  ·rw [List.getElem?_set_self (by rw [E.len];exact cd_1 e'),zt d' q.symm]
  ·rw [List.getElem?_set_ne nn];exact E.lt j d' q
theorem Ev.step2(E:Ev K H0 G0 G H σ Δ A){i:Nat}{z:Sl}{d':Tn}{S:AS}(zo:z.own=some d')(zl:∀d,z≠ .lk d)(zt:∀d,z= .lt d→σ[i]? =some (some (.ref (H0.b i))))(ms:MStep2 (A i) G H G' H')(s:σ[i]? =some (some v))(fr:∀a,S a→(A i a∨H a=none)∧G' a=none∧H' a≠none)(t:Ow K G' H' v d' S):
  Ev K H0 G0 G' H' σ (Δ.set i z) (setA A i S):=by
 have st:Step G0 H0.h G' H':=⟨fun b o q=>ms.hh b o (fun hb=>by rw [(E.out i b hb).2.1] at q;cases q) (E.st.hh b o q),ms.gh,E.st.gg.trans ms.gg,
  fun b n z=>ms.nw b (fun hb=>z (E.out i b hb).2.1) (E.st.nw b n z) fun q=>z (E.st.hh.free q)⟩
 refine⟨st,by rw [List.length_set];exact E.len,fun j d2 e'=> ?_,fun j z' d2 e' zo'=> ?_,fun j a ha=> ?_,fun j j' a h1 h2=> ?_,fun j d2 e'=> ?_,fun j d2 e'=> ?_⟩
 ·rcases i_3 e' with⟨rfl,q⟩|⟨nn,q⟩
  ·subst q;cases zo
  ·obtain⟨v',e1,r'⟩:=E.sh j d2 q;exact⟨v',e1,r'.mono ms.gg⟩
 ·rcases i_3 e' with⟨rfl,q⟩|⟨nn,q⟩
  ·subst q;rw [zo] at zo';cases zo';exact⟨v,s,by rw [j_4];exact t⟩
  ·obtain⟨v',e1,x⟩:=E.ow j z' d2 q zo';rw [j_1 (Ne.symm nn)];exact⟨v',e1,x.mono ms.gg (fun b o hb q=>ms.hh b o (fun hi=>nn (E.dj i j b hi hb)) q) fun _ q=>q⟩
 ·by_cases z:j=i
  ·subst z;rw [j_4] at ha;obtain⟨a1,a2,a3⟩:=fr a ha;refine⟨a2, ?_,a3⟩;rcases a1 with a1|a1
   ·exact(E.out j a a1).2.1
   ·exact E.st.hh.free a1
  ·rw [j_1 z] at ha;obtain⟨h1,h2,h3⟩:=E.out j a ha;have hn:¬A i a:=fun hb=>z (E.dj j i a ha hb);refine⟨ms.nw a hn h1 h3,h2,fun q=> ?_⟩;cases e:H a with
   |none=>exact h3 e
   |some o=>rw [ms.hh a o hn e] at q;cases q
 ·have own:∀k,k≠i→A k a→¬S a:=fun k nk hk hs=>by
   rcases(fr a hs).1 with q|q
   ·exact nk (E.dj k i a hk q)
   ·exact(E.out k a hk).2.2 q
  by_cases z:j=i
  ·by_cases z':j'=i
   ·rw [z,z']
   ·rw [z,j_4] at h1;rw [j_1 z'] at h2;exact absurd h1 (own j' z' h2)
  ·by_cases z':j'=i
   ·rw [j_1 z] at h1;rw [z',j_4] at h2;exact absurd h2 (own j z h1)
   ·rw [j_1 z] at h1;rw [j_1 z'] at h2;exact E.dj j j' a h1 h2
 ·rcases i_3 e' with⟨rfl,q⟩|⟨nn,q⟩
  ·exact absurd q.symm (zl d2)
  ·exact E.lk j d2 q
 ·rcases i_3 e' with⟨rfl,q⟩|⟨nn,q⟩
  ·exact zt d2 q.symm
  ·exact E.lt j d2 q
theorem Ev.step(E:Ev K H0 G0 G H σ Δ A){i:Nat}{z:Sl}{d':Tn}{S:AS}(zo:z.own=some d')(zl:∀d,z≠ .lk d)(ms:MStep (A i) G H G' H')(s:σ[i]? =some (some v))(fr:∀a,S a→(A i a∨H a=none)∧G' a=none∧H' a≠none)(t:Ow K G' H' v d' S)(zt:∀d,z≠ .lt d:=by intro _ z;cases z):
  Ev K H0 G0 G' H' σ (Δ.set i z) (setA A i S):=E.step2 zo zl (fun d e=>absurd e (zt d)) ms.weak s fr t
theorem Ev.writeL(E:Ev K H0 G0 G H σ Δ A){i:Nat}{a:Addr}{ds:List D}(s:σ[i]? =some (some (.ref a)))(m:A i a)(r:HasL K G vs ds):Ev K H0 G0 G (upd H a (.lst vs)) σ (Δ.set i (.ow (.lst ds))) (setA A i (A i)):=
 have ms:=MStep.write E.st.gh m (E.out i a m).1 (.lst vs)
 E.step rfl (fun _ z=>by cases z) ms s (fun b hb=>⟨.inl hb,(E.out i b hb).1,ms.al b (E.out i b hb).2.2⟩) (Ow.list b_3 m r)
theorem Ev.writeD(E:Ev K H0 G0 G H σ Δ A){i:Nat}{a:Addr}{kvs:List (Key×V)}{kds:List (Key×D)}(s:σ[i]? =some (some (.ref a)))(m:A i a)(hk:kvs.map (·.1)=kds.map (·.1))(r:HasL K G (kvs.map (·.2)) (kds.map (·.2))):Ev K H0 G0 G (upd H a (.dK kvs)) σ (Δ.set i (.ow (.dic kds))) (setA A i (A i)):=
 have ms:=MStep.write E.st.gh m (E.out i a m).1 (.dK kvs)
 E.step rfl (fun _ z=>by cases z) ms s (fun b hb=>⟨.inl hb,(E.out i b hb).1,ms.al b (E.out i b hb).2.2⟩) (Ow.dict b_3 hk m r)
end
def give1(Δ:SE)(j:Nat):SE:=match Δ[j]? with
 |some s=>Δ.set j s.give
 |none=>Δ
def gsome(js:List Nat)(Δ:SE):SE:=js.foldl give1 Δ
section
variable{K:Frag}{H0:HB}{G0 G H:Hp}{σ:Sg}{Δ:SE}{A:OS}
theorem y_5{α:Type}{l:List α}{j:Nat}{x:α}(h:l[j]? =some x):l.set j x=l:=by
 apply List.ext_getElem?;intro i
 by_cases e:j=i
 ·subst e;have hlt:j < l.length:=(List.getElem?_eq_some_iff.mp h).1;rw [List.getElem?_set_self hlt,h]
 ·rw [List.getElem?_set_ne e]
theorem Ev.give3(E:Ev K H0 G0 G H σ Δ A){j:Nat}{z:Sl}{t:Tn}(e:Δ[j]? =some z)(zo:z.own=some t):Same G (q_1 G H (A j))∧Ev K H0 G0 (q_1 G H (A j)) H σ (Δ.set j (.sh t.d)) (setA A j fun _=>False):=by
   obtain⟨v,s1,t⟩:=E.ow j z t e zo;have sg:Same G (q_1 G H (A j)):=fun b o q=>by
    unfold q_1
    split
    ·rename_i hb;rw [(E.out j b hb).1] at q;cases q
    ·exact q
   have gh:Same (q_1 G H (A j)) H:=fun b o q=>by
    unfold q_1 at q
    split at q
    ·exact q
    ·exact E.st.gh b o q
   refine⟨sg,⟨E.st.hh,gh,E.st.gg.trans sg,fun b h1 h2=> ?_⟩,by rw [List.length_set];exact E.len,fun i d' e'=> ?_,fun i z' d' e' zo'=> ?_,fun i b hb=> ?_,fun i i' b h1 h2=> ?_,fun i d' e'=> ?_,fun i d' e'=> ?_⟩
   ·unfold q_1
    split
    ·rename_i hb;exact absurd (E.out j b hb).2.1 h2
    ·exact E.st.nw b h1 h2
   ·rcases i_3 e' with⟨rfl,q⟩|⟨n,q⟩
    ·cases q;refine⟨v,s1,t.has sg fun b o hb q=> ?_⟩;unfold q_1;rw [if_pos hb];exact q
    ·obtain⟨v',e1,r⟩:=E.sh i d' q;exact⟨v',e1,r.mono sg⟩
   ·rcases i_3 e' with⟨rfl,q⟩|⟨n,q⟩
    ·subst q;cases zo'
    ·obtain⟨v',e1,t'⟩:=E.ow i z' d' q zo';rw [j_1 (Ne.symm n)];exact⟨v',e1,t'.mono sg (fun b o _ q=>q) fun _ q=>q⟩
   ·by_cases z:i=j
    ·subst z;rw [j_4] at hb;exact hb.elim
    ·rw [j_1 z] at hb;obtain⟨k1,k2,k3⟩:=E.out i b hb;refine⟨?_,k2,k3⟩;unfold q_1;rw [if_neg fun q=>z (E.dj i j b hb q)];exact k1
   ·by_cases z:i=j
    ·subst z;rw [j_4] at h1;exact h1.elim
    ·by_cases z':i'=j
     ·subst z';rw [j_4] at h2;exact h2.elim
     ·rw [j_1 z] at h1;rw [j_1 z'] at h2;exact E.dj i i' b h1 h2
   ·rcases i_3 e' with⟨rfl,q⟩|⟨n,q⟩
    ·cases q
    ·exact E.lk i d' q
   ·rcases i_3 e' with⟨rfl,q⟩|⟨n,q⟩
    ·cases q
    ·exact E.lt i d' q
theorem Ev.give2(E:Ev K H0 G0 G H σ Δ A){j:Nat}{z:Sl}{t:Tn}(e:Δ[j]? =some z)(zo:z.own=some t):∃G' A',Same G G'∧Ev K H0 G0 G' H σ (Δ.set j (.sh t.d)) A':=⟨_,_,E.give3 e zo⟩
theorem Ev.give1(E:Ev K H0 G0 G H σ Δ A)(j:Nat):∃G' A',Same G G'∧Ev K H0 G0 G' H σ (L3.give1 Δ j) A':=by
 unfold L3.give1;cases e:Δ[j]? with
 |none=>exact⟨G,A,Same.refl _,E⟩
 |some s=>
  cases s with
  |no=>exact⟨G,A,Same.refl _,by show Ev K H0 G0 G H σ (Δ.set j .no) A;rw [y_5 e];exact E⟩
  |sh d=>exact⟨G,A,Same.refl _,by show Ev K H0 G0 G H σ (Δ.set j (.sh d)) A;rw [y_5 e];exact E⟩
  |ow d=>
   have:=E.give2 e (t:=Tn.of d) rfl;rw [Tn.of_d] at this;exact this
  |tr t=>exact E.give2 e rfl
  |lk d=>exact⟨G,A,Same.refl _,by show Ev K H0 G0 G H σ (Δ.set j (.lk d)) A;rw [y_5 e];exact E⟩
  |lt t=>exact⟨G,A,Same.refl _,by show Ev K H0 G0 G H σ (Δ.set j (.lt t)) A;rw [y_5 e];exact E⟩
theorem Ev.gsome:∀(js:List Nat) {G:Hp} {Δ:SE} {A:OS},Ev K H0 G0 G H σ Δ A→∃G' A',Same G G'∧Ev K H0 G0 G' H σ (L3.gsome js Δ) A'
 | [],G,Δ,A,E=>⟨G,A,Same.refl _,E⟩
 |j::js,G,Δ,A,E=>by
  obtain⟨G1,A1,s1,E1⟩:=E.give1 j;obtain⟨G2,A2,s2,E2⟩:=Ev.gsome js E1;exact⟨G2,A2,s1.trans s2,E2⟩
end
def Fin(K:Frag)(EX:EXS)(H0:HB)(G0 G1:Hp)(D:Ends):Fl→Prop
 | .nx Δ=>∀σ G H O,Ev K H0 G0 G H σ Δ O→Same G1 G→D.nx σ H
 | .bk Δ=>∀σ G H O,Ev K H0 G0 G H σ Δ O→Same G1 G→D.bk σ H
 | .ct Δ=>∀σ G H O,Ev K H0 G0 G H σ Δ O→Same G1 G→D.ct σ H
 | .rt w=>WP K G0 H0.h w D.rt
 | .ex x Δ=>∀σ G H O,Ev K H0 G0 G H σ Δ O→Same G1 G→(EX σ).p x G H
 | .no=>False
theorem Fin.mono{EX:EXS}{H0:HB}{G0 G1 G2:Hp}{D:Ends}{r:Fl}(s:Same G1 G2)(h:Fin K EX H0 G0 G1 D r):Fin K EX H0 G0 G2 D r:=by
 cases r with
 |nx Δ=>exact fun σ G H O E q=>h σ G H O E (s.trans q)
 |bk Δ=>exact fun σ G H O E q=>h σ G H O E (s.trans q)
 |ct Δ=>exact fun σ G H O E q=>h σ G H O E (s.trans q)
 |rt w=>exact h
 |ex x Δ=>exact fun σ G H O E q=>h σ G H O E (s.trans q)
 |no=>exact h
def tS(K:Frag)(EX:EXS)(g:FS):TS:=fun D σ H=>∃H0 G0 G Δ O,Ev K H0 G0 G H σ Δ O∧Fin K EX H0 G0 G D (g Δ)
abbrev SD(X:Cx)(EX:EXS)(st:Stmt)(g:FS):Prop:=PS X st (tS X.K EX g)
abbrev BD(X:Cx)(EX:EXS)(st:List Stmt)(g:FS):Prop:=PSs X st (tS X.K EX g)
section
variable{X:Cx}{EX:EXS}{st:Stmt}{sts:List Stmt}{g h:FS}{pos:Pos}{e:Expr}{f:FE}{p:FT}
def sNil:FS:=fun Δ=> .nx Δ
def sSeq(g h:FS):FS:=fun Δ=>match g Δ with
 | .nx Δ'=>h Δ'
 |r=>r
theorem d_3:BD X EX [] sNil:=PSs.imp de_7 fun D σ H ⟨H0,G0,G,Δ,O,E,q⟩=>q σ G H O E (Same.refl _)
theorem a_6(h1:SD X EX st g):BD X EX [st] g:=aj_1 h1
theorem a_2(h1:SD X EX st g)(h2:BD X EX sts h):BD X EX (st::sts) (sSeq g h):=
 PSs.imp (cs_9 h1 h2) fun D σ H ⟨H0,G0,G,Δ,O,E,q⟩=>by
  refine⟨H0,G0,G,Δ,O,E, ?_⟩;unfold sSeq at q;cases e:g Δ with
  |nx Δ'=>rw [e] at q;exact fun σ' G' H' O' E' sm=>⟨H0,G0,G',Δ',O',E',Fin.mono sm q⟩
  |bk Δ'=>rw [e] at q;exact q
  |ct Δ'=>rw [e] at q;exact q
  |rt w=>rw [e] at q;exact q
  |ex x Δ'=>rw [e] at q;exact q
  |no=>rw [e] at q;exact q
def ah_5:FS:=fun _=> .no
theorem y_6:SD X EX st ah_5:=PS.imp ct_0 fun D σ H ⟨H0,G0,G,Δ,O,E,q⟩=>q
def exG(js:List Nat)(f:FE)(Δ:SE):Fl:=match f (vsh (gsome js Δ)) with
 | .ex x=> .ex x (gsome js Δ)
 |_=> .no
def exT(js:List Nat)(p:FT)(Δ:SE):Fl:=match p (vsh (gsome js Δ)) with
 | .ex x=> .ex x (gsome js Δ)
 |_=> .no
theorem bu_3{H0:HB}{G0 G G1 H:Hp}{σ:Sg}{Δ:SE}{O:OS}{D:Ends}{js:List Nat}{Q:VK}(E:Ev K H0 G0 G H σ Δ O)(sg:Same G1 G)(q:Fin K EX H0 G0 G1 D (exG js f Δ)):tD K EX f σ H Q:=by
 obtain⟨G',O',s',E'⟩:=E.gsome js;refine⟨G',vsh (gsome js Δ),E'.st.gh,E'.gsh, ?_⟩;unfold exG at q;cases e:f (vsh (gsome js Δ)) with
 |ok w=>rw [e] at q;exact q.elim
 |ex x=>rw [e] at q;exact q σ G' H O' E' (sg.trans s')
 |no=>rw [e] at q;exact q.elim
theorem cw_4{H0:HB}{G0 G G1 H:Hp}{σ:Sg}{Δ:SE}{O:OS}{D:Ends}{js:List Nat}{Q:Bool→Hp→Prop}(E:Ev K H0 G0 G H σ Δ O)(sg:Same G1 G)(q:Fin K EX H0 G0 G1 D (exT js p Δ)):tDt K EX p σ H Q:=by
 obtain⟨G',O',s',E'⟩:=E.gsome js;refine⟨G',vsh (gsome js Δ),E'.st.gh,E'.gsh, ?_⟩;unfold exT at q;cases e:p (vsh (gsome js Δ)) with
 |ok w=>rw [e] at q;exact q.elim
 |ex x=>rw [e] at q;exact q σ G' H O' E' (sg.trans s')
 |no=>rw [e] at q;exact q.elim
def sRet(js:List Nat)(f:FE):FS:=fun Δ=>match f (vall Δ) with
 | .ok w=> .rt w
 | .ex _=>exG js f Δ
 | .no=> .no
theorem b_4(js:List Nat)(he:ED X EX e f):SD X EX (.Return (some e) pos) (sRet js f):=
 PS.imp (cb_4 he) fun D σ H ⟨H0,G0,G,Δ,O,E,q⟩=>by
  unfold sRet at q;cases e1:f (vall Δ) with
  |ok w=>
   rw [e1] at q;exact⟨u_9 G H O,vall Δ,E.aH,E.gall,by rw [e1];exact WP.mono E.aStep q⟩
  |ex x=>rw [e1] at q;exact bu_3 E (Same.refl _) q
  |no=>rw [e1] at q;exact q.elim
def sRetV(i:Nat):FS:=fun Δ=>match Δ[i]? with
 |some (.sh d)=> .rt (.sh d)
 |some (.ow d)=> .rt (.ow d)
 |some (.tr t)=> .rt (.tr t)
 |_=> .no
theorem n_6(i:Nat){x:Str}{pos pos':Pos}(hN:X.N[i]? =some x:=by rfl)(hv:Vis X.env.scope x:=by first|exact Or.inl rfl|exact Or.inr (Or.inl rfl)|exact Or.inr (Or.inr rfl))(hd:(x ==("__debug__" :Str))=false:=by decide)
  (hcd:(x ==("__classdict__" :Str))=false:=by decide):SD X EX (.Return (some (.Name x pos)) pos') (sRetV i):=
 PS.imp (cb_4 (h_4 hN hv hd hcd)) fun D σ H ⟨H0,G0,G,Δ,O,E,q⟩=>by
  unfold sRetV at q
  split at q
  ·rename_i d e;obtain⟨v,e1,r⟩:=E.sh i d e;exact⟨v,e1,(WP.mono (w:= .sh d) (Q:=D.rt) E.st q).use E.st.gh r⟩
  ·rename_i d e;obtain⟨v,e1,t⟩:=E.ow i _ _ e rfl;exact⟨v,e1,q v (O i) G H E.st (fun a ha=>let⟨h1,h2,h3⟩:=E.out i a ha;⟨h2,h1,h3⟩) t⟩
  ·rename_i d e;obtain⟨v,e1,t⟩:=E.ow i _ _ e rfl;exact⟨v,e1,q v (O i) G H E.st (fun a ha=>let⟨h1,h2,h3⟩:=E.out i a ha;⟨h2,h1,h3⟩) t⟩
  ·exact q.elim
def sPut(i:Nat)(Δ:SE):R W→Fl
 | .ok (.sh d)=> .nx (Δ.set i (.sh d))
 | .ok (.ow d)=> .nx (Δ.set i (.ow d))
 | .ok (.tr t)=> .nx (Δ.set i (.tr t))
 | .ex x=> .ex x Δ
 | .no=> .no
def sSet(i:Nat)(js:List Nat)(f:FE):FS:=fun Δ=>match f (vsh Δ) with
 | .ok (.sh d)=> .nx (Δ.set i (.sh d))
 | .ok (.ow d)=> .nx (Δ.set i (.ow d))
 | .ok (.tr t)=> .nx (Δ.set i (.tr t))
 | .ex x=> .ex x Δ
 | .no=>match f (vall Δ) with
  | .ex _=>sPut i (gsome js Δ) (f (vsh (gsome js Δ)))
  | .no=> .no
  | .ok w=>if flatD w.d=true then .nx (Δ.set i (.sh w.d)) else sPut i (gsome js Δ) (f (vsh (gsome js Δ)))
theorem av_3{H0:HB}{G0 G G1 H:Hp}{σ:Sg}{Δ:SE}{O:OS}{D:Ends}{i:Nat}(E:Ev K H0 G0 G H σ Δ O)(sg:Same G1 G)
  (q:Fin K EX H0 G0 G1 D (sPut i Δ (f (vsh Δ)))):tAsg (tD K EX f) (ch_1 i) D σ H:=by
 refine⟨G,vsh Δ,E.st.gh,E.gsh, ?_⟩;unfold sPut at q;cases e1:f (vsh Δ) with
 |ok w=>
  rw [e1] at q;cases w with
  |sh d=>exact fun v G' H' st r=>q _ G' H' O ((E.grow st).put r) (sg.trans st.gg)
  |ow d=>
   intro v S G' H' st fr t;exact q _ G' H' _ ((E.grow st).putO (fun a ha=>⟨E.st.hh.free (fr a ha).1,(fr a ha).2⟩) rfl (fun _ z=>by cases z) t fun j a hj hs=>(E.out j a hj).2.2 (fr a hs).1) (sg.trans st.gg)
  |tr d=>
   intro v S G' H' st fr t;exact q _ G' H' _ ((E.grow st).putO (fun a ha=>⟨E.st.hh.free (fr a ha).1,(fr a ha).2⟩) rfl (fun _ z=>by cases z) t fun j a hj hs=>(E.out j a hj).2.2 (fr a hs).1) (sg.trans st.gg)
 |ex x=>rw [e1] at q;exact q σ G H O E sg
 |no=>rw [e1] at q;exact q
theorem bu_4{D:Ends}{σ:Sg}{i:Nat}{js:List Nat}(q:tS K EX (sSet i js f) D σ H):tAsg (tD K EX f) (ch_1 i) D σ H:=by
 obtain⟨H0,G0,G,Δ,O,E,q⟩:=q;unfold sSet at q;cases e1:f (vsh Δ) with
 |ok w=>
  rw [e1] at q;refine av_3 E (Same.refl _) ?_;unfold sPut;rw [e1];cases w <;> exact q
 |ex x=>
  rw [e1] at q;refine av_3 E (Same.refl _) ?_;unfold sPut;rw [e1];exact q
 |no=>
  rw [e1] at q;cases e2:f (vall Δ) with
  |ok w=>
   simp only [e2] at q
   split at q
   ·rename_i fl;refine⟨u_9 G H O,vall Δ,E.aH,E.gall, ?_⟩;rw [e2];exact WP.intro fun v G' H' st r=>q _ G H' O ((E.keep st.hh).put (r.ofFl fl)) (Same.refl _)
   ·obtain⟨G',O',sg,E'⟩:=E.gsome js;exact av_3 E' sg q
  |ex x=>
   simp only [e2] at q;obtain⟨G',O',sg,E'⟩:=E.gsome js;exact av_3 E' sg q
  |no=>simp only [e2] at q;exact q.elim
theorem a_8{i:Nat}(js:List Nat){x:Str}{pos':Pos}(he:ED X EX e f)(hN:X.N.Nodup)(hi:X.N[i]? =some x:=by rfl)(hx:Loc X.env.scope x:=by first|exact Or.inl rfl|exact Or.inr rfl)(hs:swapsWith e (some (.Name x pos')) pos.line X.env=pure false:=by rfl)
  (hf:X.fn x=true∨X.env.scope.names.lookup x=some .local:=by first|exact .inl rfl|exact .inr rfl|assumption):SD X EX (.Assign [.Name x pos'] e pos) (sSet i js f):=
 PS.imp (cb_5 hN hi hx he hs hf) fun D σ H q=>bu_4 q
def sExpr(js:List Nat)(f:FE):FS:=fun Δ=>match f (vall Δ) with
 | .ok _=> .nx Δ
 | .ex _=>exG js f Δ
 | .no=> .no
theorem x_0(js:List Nat)(he:ED X EX e f)(hs:swapsWith e none pos.line X.env=pure false:=by rfl):SD X EX (.Expr e pos) (sExpr js f):=
 PS.imp (aj_2 he hs) fun D σ H ⟨H0,G0,G,Δ,O,E,q⟩=>by
  unfold sExpr at q;cases e1:f (vall Δ) with
  |ok w=>
   rw [e1] at q;exact⟨u_9 G H O,vall Δ,E.aH,E.gall,by rw [e1];exact WP.intro fun v G' H' st r=>q σ G H' O (E.keep st.hh) (Same.refl _)⟩
  |ex x=>rw [e1] at q;exact bu_3 E (Same.refl _) q
  |no=>rw [e1] at q;exact q.elim
def sIf(js:List Nat)(p:FT)(g h:FS):FS:=fun Δ=>match p (vall Δ) with
 | .ok b=>if b=true then g Δ else h Δ
 | .ex _=>exT js p Δ
 | .no=> .no
theorem bg_7{H0:HB}{G0 G H:Hp}{σ:Sg}{Δ:SE}{O:OS}{D:Ends}{k:Bool→Fl}{P:Bool→Hp→Prop}{js:List Nat}(E:Ev K H0 G0 G H σ Δ O)
  {G1:Hp} (sg:Same G1 G) (q:Fin K EX H0 G0 G1 D (match p (vall Δ) with| .ok b=>k b| .ex _=>exT js p Δ| .no=> .no)) (i:∀b H',p (vall Δ)= .ok b→Ev K H0 G0 G H' σ Δ O→Fin K EX H0 G0 G1 D (k b)→P b H'):tDt K EX p σ H P:=by
 cases e1:p (vall Δ) with
 |ok b=>rw [e1] at q;exact⟨u_9 G H O,vall Δ,E.aH,E.gall,by rw [e1];exact fun G' H' st=>i b H' e1 (E.keep st.hh) q⟩
 |ex x=>rw [e1] at q;exact cw_4 E sg q
 |no=>rw [e1] at q;exact q.elim
theorem e_4(js:List Nat){c:Expr}{as bs:List Stmt}(hc:TD X EX c p)(ha:BD X EX as g)(hb:BD X EX bs h):SD X EX (.If c as bs pos) (sIf js p g h):=
 PS.imp (dv_8 hc ha hb) fun D σ H ⟨H0,G0,G,Δ,O,E,q⟩=>bg_7 (k:=fun b=>if b=true then g Δ else h Δ) E (Same.refl _) q fun b H' _ E' q'=>by
  cases b with
  |true=>rw [if_pos rfl];exact⟨H0,G0,G,Δ,O,E',q'⟩
  |false=>rw [if_neg Bool.false_ne_true];exact⟨H0,G0,G,Δ,O,E',q'⟩
def i_4(js:List Nat)(p:FT)(g:FS):Nat→FS
 |0=>fun _=> .no
 |n + 1=>fun Δ=>match p (vall Δ) with
  | .ok b=>if b=true then(match g Δ with
    | .nx Δ'=>i_4 js p g n Δ'
    | .ct Δ'=>i_4 js p g n Δ'
    | .bk Δ'=> .nx Δ'
    |r=>r) else .nx Δ
  | .ex _=>exT js p Δ
  | .no=> .no
theorem bu_5(js:List Nat)(n:Nat){c:Expr}{body:List Stmt}(hp:PassesOwn (model X.prog X.w) X.A X.env X.xe)(hc:TD X EX c p)(hb:BD X EX body g):SD X EX (.While c body [] pos) (i_4 js p g n):=
 PS.imp (ct_3 hp hc hb) fun D σ H ⟨H0,G0,G1,Δ,O,E,q⟩=>by
  refine⟨fun m σ H=>∃G Δ O,Ev X.K H0 G0 G H σ Δ O∧Same G1 G∧Fin X.K EX H0 G0 G1 D (i_4 js p g m Δ),⟨n,G1,Δ,O,E,Same.refl _,q⟩, ?_⟩
  rintro m σ H ⟨G,Δ,O,E,sg,q⟩
  cases m with
  |zero=>exact False.elim q
  |succ m=>
   refine bg_7 (k:=fun b=>if b=true then(match g Δ with| .nx Δ'=>i_4 js p g m Δ'| .ct Δ'=>i_4 js p g m Δ'| .bk Δ'=> .nx Δ'|r=>r) else .nx Δ) E sg q fun b H' _ E' q'=> ?_;cases b with
   |false=>rw [if_neg Bool.false_ne_true];exact q' σ G H' O E' sg
   |true=>
    rw [if_pos rfl];rw [if_pos rfl] at q';refine⟨fun σ' H'=>∃G Δ O,Ev X.K H0 G0 G H' σ' Δ O∧Same G1 G∧Fin X.K EX H0 G0 G1 D (i_4 js p g m Δ),fun σ' H' w=>⟨m,Nat.lt_succ_self _,w⟩,H0,G0,G,Δ,O,E', ?_⟩;cases e1:g Δ with
    |nx Δ'=>rw [e1] at q';exact fun σ' G' H' O' E2 s2=>⟨G',Δ',O',E2,sg.trans s2,q'⟩
    |ct Δ'=>rw [e1] at q';exact fun σ' G' H' O' E2 s2=>⟨G',Δ',O',E2,sg.trans s2,q'⟩
    |bk Δ'=>rw [e1] at q';exact Fin.mono (r:= .nx Δ') sg q'
    |rt w=>rw [e1] at q';exact q'
    |ex x Δ'=>rw [e1] at q';exact Fin.mono (r:= .ex x Δ') sg q'
    |no=>rw [e1] at q';exact q'
end
def start3(n:Nat)(ds:List D):SE:=ds.map Sl.sh ++ List.replicate (n - ds.length) .no
def bodyD(n:Nat)(g:FS)(ds:List D):R W:=match g (start3 n ds) with
 | .nx _=> .ok (.sh .non)
 | .rt w=> .ok w
 | .ex x _=> .ex x
 |_=> .no
theorem cw_5{G H:Hp}{ds:List D}{N:List Str}(g:Same G H)(r:HasL K G vs ds):Ev K ⟨H,fun _=>0⟩ G G H (o_3 N vs) (start3 N.length ds) (fun _ _=>False):=by
 refine⟨Step.refl g, ?_,fun i d e=> ?_,fun i z d e zo=> ?_,fun _ _ ha=>ha.elim,fun _ _ _ ha=>ha.elim,fun i d e=> ?_,fun i d e=> ?_⟩
 ·unfold o_3 start3;simp only [List.length_append,List.length_map,List.length_replicate,r.length]
 ·unfold start3 at e
  by_cases hi:i < ds.length
  ·rw [List.getElem?_append_left (by rw [List.length_map];exact hi),List.getElem?_map] at e;cases q:ds[i]? with
   |none=>rw [q] at e;cases e
   |some d'=>
    rw [q] at e;cases e;obtain⟨v,e1,h⟩:=r.get q;refine⟨v, ?_,h⟩;unfold o_3;rw [List.getElem?_append_left (by rw [List.length_map,r.length];exact hi),List.getElem?_map,e1];rfl
  ·rw [List.getElem?_append_right (by rw [List.length_map];omega),List.getElem?_replicate] at e
   split at e <;> cases e
 ·exfalso;unfold start3 at e
  by_cases hi:i < ds.length
  ·rw [List.getElem?_append_left (by rw [List.length_map];exact hi),List.getElem?_map] at e;cases q:ds[i]? with
   |none=>rw [q] at e;cases e
   |some d'=>rw [q] at e;cases e;cases zo
  ·rw [List.getElem?_append_right (by rw [List.length_map];omega),List.getElem?_replicate] at e
   split at e
   ·cases e;cases zo
   ·cases e
 ·exfalso;unfold start3 at e
  by_cases hi:i < ds.length
  ·rw [List.getElem?_append_left (by rw [List.length_map];exact hi),List.getElem?_map] at e;cases q:ds[i]? with
   |none=>rw [q] at e;cases e
   |some d'=>rw [q] at e;cases e
  ·rw [List.getElem?_append_right (by rw [List.length_map];omega),List.getElem?_replicate] at e
   split at e <;> cases e
 ·exfalso;unfold start3 at e
  by_cases hi:i < ds.length
  ·rw [List.getElem?_append_left (by rw [List.length_map];exact hi),List.getElem?_map] at e;cases q:ds[i]? with
   |none=>rw [q] at e;cases e
   |some d'=>rw [q] at e;cases e
  ·rw [List.getElem?_append_right (by rw [List.length_map];omega),List.getElem?_replicate] at e
   split at e <;> cases e
theorem fn_D{c:Bool}{w:World}{x qual:Str}{st:Stmt}{f:Addr}{N ps:List Str}{k:Nat}{g:FS}(F:Fun K x qual st f fd)(S:FnScope N ps (b_2 st))
  (zh:∀(zn:Value) (A:Around) (outer:List Env) (s:Shared) (H:Hp) (E:XK),RoomC c k (A.deeper (envOfC qual (b_2 st) s.heap.objs.size f zn))→
   BD (cxN c P w K mg base N qual (b_2 st) f zn A outer s H E) (fun _=>EXof K E) (e_1 st) g):FnX P w K mg base c (k + 1) f fd ps (spX K ps.length (bodyD N.length g)):=by
 refine Fun.okX F S (fun vs H Q E h=>h.1) fun zn A outer s H vs Q E hr h=>⟨_,zh zn A outer s H E hr, ?_⟩;obtain⟨hl,G,ds,g0,r,o⟩:=h;refine⟨⟨H,fun _=>0⟩,G,G,_,_,cw_5 g0 r, ?_⟩;unfold bodyD at o;cases e:g (start3 N.length ds) with
 |nx Δ=>rw [e] at o;exact fun σ G' H' O E' _=>(WP.mono (w:= .sh .non) (Q:=Q) E'.st o).use E'.st.gh .non
 |rt w=>rw [e] at o;exact o
 |ex x Δ=>rw [e] at o;exact fun σ G' H' O E' _=>(EXof K E).mono _ _ _ _ _ E'.st o
 |bk Δ=>rw [e] at o;exact o.elim
 |ct Δ=>rw [e] at o;exact o.elim
 |no=>rw [e] at o;exact o
theorem c_3{c:Bool}{w:World}{x:Str}{st:Stmt}{f:Addr}{ps:List Str}{k:Nat}{Fn:List D→R W}(F:Fun K x x st f fd)(hm:mg x=some (.ref f))(hb:Binds K fd ps [])
  (ok:FnX P w K mg base c k f fd ps (spX K ps.length Fn)):FnD P w K mg base c x k ps Fn:=⟨f,fd,ok,hm,F.kp,hb⟩
def cw_6(x:Str):It:=⟨fun i _=>i < x.cps.size,fun i H v H'=>H'=H∧∃c,x.cps[i]? =some c∧v= .str ⟨#[c]⟩,fun i _=>i=x.cps.size⟩
theorem cd_2{w:World}{tg:Expr}{it:Addr}{n:Nat}{Pv:Nat→Value→Prop}{St:Nat→Heap→Prop}{J:It}
  (W:∀A':Around,A'.handled=none→Walks P w A' it [it] [it] n Pv St)
  (bb:∀i h,St i h→∃o nm vs,h.get? it=some o∧o.cls= .type nm∧o.data= .fields vs∧ ["enumerate", "zip", "dict_itemiterator", "dict_reverseitemiterator", "odict_iterator", "itertools.zip_longest", "itertools.pairwise"].contains nm=false)
  (bq:∀(i:Nat) (h h':Heap),St i h→(∀b∈ [it],∀o,h.get? b=some o→h'.get? b=some o)→St i h') (bt:∀(A:Around) (i:Nat) (s:Shared) (Q E:Value→Shared→Prop),St i s.heap→Q (.ref it) s→wpAny (model P w) A (pyIter (.ref it)) Q E s)
  (hgo:∀i H,J.go i H→i < n) (hst:∀i H,J.stop i H→i=n) (hy:∀i H u,Pv i u→∃x,RelV x u∧J.yld i H x H):Turn P w K tg J [it] it St where
 mem:=by simp
 obj:=fun i h st b hb=>by
  have e:b=it:=by simpa using hb
  subst e;obtain⟨o,nm,vs,e,c,d,_⟩:=bb i h st;exact⟨o,e,fun v z=>by rw [d] at z;cases z⟩
 keep:=bq
 item:=by
  intro X hP hw hK hc i zc s σ H E I hf st hg;subst hP hw hK;obtain⟨f0,f1,f2,f3,f4,f5⟩:=hf it (by simp);refine(W X.A (I.ok.hd hc)).item i s _ _ (hgo i H hg) st fun v h' tk hv st' kk=> ?_;have I1:Inv X zc σ H {s with heap:=h',toks:=tk}:=I.turned (fun b o hb e=>kk b o (by simpa using hb) e) f0 f1 f3 f4 f5;obtain⟨x,rx,yx⟩:=hy i H v hv;obtain⟨o,nm,vs,e,c,d,hn⟩:=bb (i + 1) h' st';exact⟨v,rfl,bs_9 (s:={s with heap:=h',toks:=tk}) e c d hn ⟨x,H,I1,rx,yx,st',fun b hb=>(hf b hb).1⟩⟩
 done:=by
  intro X hP hw hK hc i zc s σ H E I hf st hg;subst hP hw hK;obtain⟨f0,f1,f2,f3,f4,f5⟩:=hf it (by simp);obtain rfl:=hst i H hg;exact(W X.A (I.ok.hd hc)).done s _ _ st fun h' tk kk=>⟨rfl,I.turned (fun b o hb e=>kk b o (by simpa using hb) e) f0 f1 f3 f4 f5⟩
 self:=bt
def ItD(K:Frag)(G1:Hp)(J:It)(ds:List D):Prop:=∀G H,Same G1 G→Same G H→∀i,
 (∀d,ds[i]? =some d→J.go i H∧∀x H',J.yld i H x H'→∃G',Step G H G' H'∧Has K G' x d)∧(ds.length=i→J.stop i H)
abbrev FI:=DE→R (List D)
def tI(K:Frag)(EX:EXS)(fi:FI):TI:=fun σ H Q=>∃G δ,Same G H∧HasS K G σ δ∧match fi δ with
 | .ok ds=>∀J G' H',Step G H G' H'→ItD K G' J ds→Q J H'
 | .ex x=>(EX σ).p x G H
 | .no=>False
abbrev ID(X:Cx)(EX:EXS)(tg iter:Expr)(fi:FI):Prop:=PI X tg iter (tI X.K EX fi)
theorem PI.imp{tg e:Expr}{t t':TI}(h:PI X tg e t)(i:∀σ H Q,t' σ H Q→t σ H Q):PI X tg e t':=fun zc s σ H Q I q=>h zc s σ H Q I (i σ H Q q)
section
variable{X:Cx}{EX:EXS}{tg e a b:Expr}{f:FE}{fa:FA}{p pos:Pos}
theorem tDa.seqI{G H:Hp}{σ:Sg}{δ:DE}{k:List D→R (List D)}{Q:It→Hp→Prop}{P:List V→Hp→Prop}(g:Same G H)(s:HasS K G σ δ)
  (h:match(fa δ).bind k with| .ok ds=>∀J G' H',Step G H G' H'→ItD K G' J ds→Q J H'| .ex x=>(EX σ).p x G H| .no=>False)
  (i:∀ds vs G' H',Step G H G' H'→HasL K G' vs ds→(match k ds with| .ok ds=>∀J G2 H2,Step G' H' G2 H2→ItD K G2 J ds→Q J H2| .ex x=>(EX σ).p x G' H'| .no=>False)→P vs H'):tDa K EX fa σ H P:=by
 refine⟨G,δ,g,s, ?_⟩;cases e:fa δ with
 |ok ds=>
  rw [e] at h;simp only [R.bind_ok] at h;refine fun vs G' H' st r=>i ds vs G' H' st r ?_;cases e2:k ds with
  |ok ds'=>rw [e2] at h;exact fun J G2 H2 st2 it=>h J G2 H2 (st.trans st2) it
  |ex x=>rw [e2] at h;exact(EX σ).mono _ _ _ _ _ st h
  |no=>rw [e2] at h;exact h
 |ex x=>rw [e] at h;exact h
 |no=>rw [e] at h;exact h
def b_5(lo:Int)(n:Nat):List D:=(List.range n).map fun(k:Nat)=>D.int (lo + (k:Int))
theorem ao_2{lo:Int}{n i:Nat}{d:D}(h:(b_5 lo n)[i]? =some d):i < n∧d= .int (lo + (i:Int)):=by
 unfold b_5 at h;rw [List.getElem?_map] at h
 by_cases hi:i < n
 ·rw [List.getElem?_range hi] at h;cases h;exact⟨hi,rfl⟩
 ·rw [List.getElem?_eq_none (by rw [List.length_range];omega)] at h;cases h
theorem l_9(lo:Int)(n:Nat):(b_5 lo n).length=n:=by unfold b_5;rw [List.length_map,List.length_range]
theorem bg_8{G:Hp}(lo:Int)(n:Nat):ItD K G (Itr lo n) (b_5 lo n):=fun G' H _ g i=>by
 refine⟨fun d e=> ?_,fun e=> ?_⟩
 ·obtain⟨hi,rfl⟩:=ao_2 e;refine⟨hi,fun x H' y=> ?_⟩;obtain⟨e1,e2⟩:=y;subst e1 e2;exact⟨G',Step.refl g, .int _⟩
 ·rw [l_9] at e;exact Nat.le_of_eq e
def n_7:List D→R (List D)
 | [.int j]=>if j.natAbs < 4611686018427387904 then .ok (b_5 0 j.toNat) else .no
 |_=> .no
def rng2:List D→R (List D)
 | [.int i, .int j]=>if i.natAbs < 4611686018427387904∧j.natAbs < 4611686018427387904 then .ok (b_5 i (j - i).toNat) else .no
 |_=> .no
def iArgs(k:List D→R (List D))(fa:FA):FI:=fun δ=>(fa δ).bind k
theorem j_5(hm:X.mg "range" =none)(ha:AD X EX [a] fa)(hg:Gl X "range" :=by rfl)(hs:starEach [a] X.env= [(false,eval a X.env)]:=by rfl):ID X EX tg (.Call (.Name "range" p) [a] [] pos) (iArgs n_7 fa):=
 PI.imp (cm_4 hg hm ha hs) fun σ H Q ⟨G,δ,g0,s0,o⟩=>tDa.seqI g0 s0 o fun ds vs G' H' st r o'=>by
  cases r with
  |nil=>exact False.elim o'
  |cons h t=>
   cases t with
   |cons _ _=>cases h <;> exact False.elim o'
   |nil=>
    cases h with
    |int j=>
     by_cases hc:j.natAbs < 4611686018427387904
     ·rw [show n_7 [.int j]= .ok (b_5 0 j.toNat) from if_pos hc] at o';exact⟨j,rfl,by omega,by omega,o' _ G' H' (Step.refl st.gh) (bg_8 0 j.toNat)⟩
     ·rw [show n_7 [.int j]= .no from if_neg hc] at o';exact o'.elim
    |_=>exact False.elim o'
theorem co_5(hm:X.mg "range" =none)(ha:AD X EX [a,b] fa)(hg:Gl X "range" :=by rfl)(hs:starEach [a,b] X.env= [(false,eval a X.env),(false,eval b X.env)]:=by rfl)(hs2:starEach [b] X.env= [(false,eval b X.env)]:=by rfl):
  ID X EX tg (.Call (.Name "range" p) [a,b] [] pos) (iArgs rng2 fa):=
 PI.imp (cm_5 hg hm ha hs hs2) fun σ H Q ⟨G,δ,g0,s0,o⟩=>tDa.seqI g0 s0 o fun ds vs G' H' st r o'=>by
  refine ak_1 r (fun i j e1 e2=> ?_) fun n=> ?_
  ·subst e1 e2
   by_cases hc:i.natAbs < 4611686018427387904∧j.natAbs < 4611686018427387904
   ·rw [show rng2 [.int i, .int j]= .ok (b_5 i (j - i).toNat) from if_pos hc] at o';exact⟨i,j,rfl,⟨by have:=hc.1;omega,by have:=hc.1;omega,by have:=hc.2;omega,by have:=hc.2;omega⟩,o' _ G' H' (Step.refl st.gh) (bg_8 i (j - i).toNat)⟩
   ·rw [show rng2 [.int i, .int j]= .no from if_neg hc] at o';exact o'.elim
  ·have e:rng2 ds= .no:=by
    unfold rng2
    split
    ·rename_i i j;exact absurd rfl (n i j)
    ·rfl
   rw [e] at o';exact o'.elim
def q_3(x:Str):List D:=x.cps.toList.map fun c=> .str ⟨#[c]⟩
def itemsD:D→R (List D)
 | .lst ds=> .ok ds
 | .tup ds=> .ok ds
 | .str x=> .ok (q_3 x)
 |_=> .no
def iOf(f:FE):FI:=fun δ=>(f δ).bind fun w=>itemsD w.d
def iAny(K:Frag)(tl:TE):TI:=fun σ H Q=>tl σ H fun x H1=>
 (∃a,x= .ref a∧(∃xs,SqL K H1 a xs)∧Q (Itl K a) H1)∨(∃a,x= .ref a∧(∃xs,SqT K H1 a xs)∧Q (Itt K a) H1)∨(∃z,x= .str z∧Q (cw_6 z) H1)
theorem ds_4{l:Expr}{tl:TE}(hl:PE X l tl):PI X tg l (iAny X.K tl):=by
 intro zc s σ H Q I h;refine thn (hl zc s σ H _ I h) fun v s1 ⟨x,H1,I1,r1,q1⟩=> ?_;rcases q1 with⟨a,e,⟨xs,hq⟩,q⟩|⟨a,e,⟨xs,hq⟩,q⟩|⟨z,e,q⟩
 ·subst e;cases r1;obtain⟨its,rv,p,hz⟩:=I1.list hq;refine wpAny_pyIter_list p.isList ?_;refine⟨s1.heap.objs.size, [s1.heap.objs.size],_,_,H1,rfl,I1.kept (t':=s1.toks) fun b o e=>Heap.get?_push_of_some _ e,cm_3 a _,⟨_,Heap.get?_push_size _ rfl,rfl,rfl⟩,fun b hb=> ?_,q⟩;have e:b=s1.heap.objs.size:=by simpa using hb
  subst e;exact I1.fpOk (Nat.le_refl _) (I1.hok.fresh (Nat.le_refl _))
 ·subst e;cases r1;obtain⟨its,rv,p,hz⟩:=I1.tuple hq;refine wpAny_pyIter_tuple (show s1.heap.IsTuple a its.toArray from p) ?_;refine⟨s1.heap.objs.size, [s1.heap.objs.size],_,_,H1,rfl,I1.kept (t':=s1.toks) fun b o e=>Heap.get?_push_of_some _ e,cb_6 a _,⟨_,Heap.get?_push_size _ rfl,rfl,rfl⟩,fun b hb=> ?_,q⟩;have e:b=s1.heap.objs.size:=by simpa using hb
  subst e;exact I1.fpOk (Nat.le_refl _) (I1.hok.fresh (Nat.le_refl _))
 ·subst e;obtain⟨t,rfl⟩:=r1;have fin:∀(nm:String) (St:Nat→Heap→Prop),(∀i h,St i h↔h.IsStrIter s1.heap.objs.size nm z t i)→(∀A':Around,A'.handled=none→Walks X.prog X.w A' s1.heap.objs.size [s1.heap.objs.size] [s1.heap.objs.size] z.cps.size (SignAt z) St)→
    ["enumerate", "zip", "dict_itemiterator", "dict_reverseitemiterator", "odict_iterator", "itertools.zip_longest", "itertools.pairwise"].contains nm=false→
    (∀(A:Around) (i:Nat) (s:Shared) (Q E:Value→Shared→Prop),s.heap.IsStrIter s1.heap.objs.size nm z t i→Q (.ref s1.heap.objs.size) s→wpAny (model X.prog X.w) A (pyIter (.ref s1.heap.objs.size)) Q E s)→
    PIE X zc σ tg Q (.ref s1.heap.objs.size) {s1 with heap:=s1.heap.push {cls:= .type nm,data:= .fields #[.str z t, .int 0 0]}}:=by
   intro nm St hS W hn hslf;refine⟨s1.heap.objs.size, [s1.heap.objs.size],St,cw_6 z,H1,rfl,I1.kept (t':=s1.toks) fun b o e=>Heap.get?_push_of_some _ e,
    cd_2 W (fun i h st=> ?_) (fun i h h' st k=> ?_) (fun A i s Q E st h=>hslf A i s Q E ((hS _ _).mp st) h) (fun i H g=>g) (fun i H g=> ?_) (fun i H u hu=> ?_),(hS _ _).mpr ⟨_,Heap.get?_push_size _ rfl,rfl,rfl⟩,fun b hb=> ?_,q⟩
   ·obtain⟨o,ho,hc,hd⟩:=(hS _ _).mp st;exact⟨o,nm,_,ho,hc,hd,hn⟩
   ·obtain⟨o,ho,r⟩:=(hS _ _).mp st;exact(hS _ _).mpr ⟨o,k _ (by simp) o ho,r⟩
   ·exact g
   ·obtain⟨c,u',e1,e2⟩:=hu;subst e2;exact⟨.str ⟨#[c]⟩,⟨u',rfl⟩,rfl,c,e1,rfl⟩
   ·have e:b=s1.heap.objs.size:=by simpa using hb
    subst e;exact I1.fpOk (Nat.le_refl _) (I1.hok.fresh (Nat.le_refl _))
  cases ha:z.cps.all (· < 128)
  ·exact wpAny_pyIter_wide ha (fin "str_iterator" _ (fun _ _=>Iff.rfl) (fun A' hA=>Walks.strWide hA _ z t) (by decide) fun A i s Q E st h=>wpAny_pyIter_striter_wide st h)
  ·exact wpAny_pyIter_ascii ha (fin "str_ascii_iterator" _ (fun _ _=>Iff.rfl) (fun A' hA=>Walks.strAscii hA _ z t) (by decide) fun A i s Q E st h=>wpAny_pyIter_striter_ascii st h)
theorem cw_7{G:Hp}{a:Addr}{ds:List D}(h:SqL K G a vs)(r:HasL K G vs ds):ItD K G (Itl K a) ds:=fun G' H g1 g i=>by
 refine⟨fun d e=> ?_,fun e=> ?_⟩
 ·obtain⟨v,e1,hv⟩:=r.get e;refine⟨⟨vs,v,(g1.trans g).seq h,e1⟩,fun x H' y=> ?_⟩;obtain⟨e2,y⟩:=y;subst e2;have e3:=y vs ((g1.trans g).seq h);rw [e1] at e3;cases e3;exact⟨G',Step.refl g,hv.mono g1⟩
 ·exact⟨vs,(g1.trans g).seq h,by rw [r.length];exact Nat.le_of_eq e⟩
theorem dh_1{G:Hp}{a:Addr}{ds:List D}(h:SqT K G a vs)(r:HasL K G vs ds):ItD K G (Itt K a) ds:=fun G' H g1 g i=>by
 refine⟨fun d e=> ?_,fun e=> ?_⟩
 ·obtain⟨v,e1,hv⟩:=r.get e;refine⟨⟨vs,v,Same.tupS (g1.trans g) h,e1⟩,fun x H' y=> ?_⟩;obtain⟨e2,y⟩:=y;subst e2;have e3:=y vs (Same.tupS (g1.trans g) h);rw [e1] at e3;cases e3;exact⟨G',Step.refl g,hv.mono g1⟩
 ·exact⟨vs,Same.tupS (g1.trans g) h,by rw [r.length];exact Nat.le_of_eq e⟩
theorem dh_2{G:Hp}(z:Str):ItD K G (cw_6 z) (q_3 z):=fun G' H g1 g i=>by
 refine⟨fun d e=> ?_,fun e=> ?_⟩
 ·unfold q_3 at e;rw [List.getElem?_map] at e;cases q:z.cps.toList[i]? with
  |none=>rw [q] at e;cases e
  |some c=>
   rw [q] at e;cases e;have hi:i < z.cps.size:=by
    have:=(List.getElem?_eq_some_iff.mp q).1;simpa using this
   refine⟨hi,fun x H' y=> ?_⟩;obtain⟨e2,c',e3,e4⟩:=y;subst e2 e4;have:z.cps.toList[i]? =some c':=by simpa using e3
   rw [q] at this;cases this;exact⟨G',Step.refl g, .str _⟩
 ·unfold q_3 at e;rw [List.length_map] at e;show i=z.cps.size;simp at e;omega
theorem s_2(he:ED X EX e f):ID X EX tg e (iOf f):=
 PI.imp (ds_4 he) fun σ H Q ⟨G,δ,g0,s0,o⟩=>by
  refine⟨G,δ,g0,s0, ?_⟩;unfold iOf at o;cases e1:f δ with
  |ok w=>
   rw [e1] at o;simp only [R.bind_ok] at o;refine WP.intro fun v G' H' st r=> ?_;revert r o;cases w.d with
   |lst ds=>
    intro o r;cases r with
    |lst h r=>exact .inl ⟨_,rfl,⟨_,st.gh.seq h⟩,o _ G' H' st (cw_7 h r)⟩
   |tup ds=>
    intro o r;cases r with
    |tup h r=>exact .inr (.inl ⟨_,rfl,⟨_,Same.tupS st.gh h⟩,o _ G' H' st (dh_1 h r)⟩)
   |str z=>
    intro o r;cases r;exact .inr (.inr ⟨z,rfl,o _ G' H' st (dh_2 z)⟩)
   |_=>intro o _;exact False.elim o
  |ex x=>rw [e1] at o;exact o
  |no=>rw [e1] at o;exact o
end
abbrev FG:=D→SE→R SE
def tG(K:Frag)(EX:EXS)(fg:FG):TG:=fun v σ H Q=>∃H0 G0 G Δ O d,Ev K H0 G0 G H σ Δ O∧Has K G v d∧match fg d Δ with
 | .ok Δ'=>∀σ' G' H' O',Ev K H0 G0 G' H' σ' Δ' O'→Same G G'→Q σ' H'
 | .ex _=>False
 | .no=>False
theorem PG.imp{tg:Expr}{t t':TG}(h:PG X tg t)(i:∀v σ H Q,t' v σ H Q→t v σ H Q):PG X tg t':=fun zc s σ H v u Q I r q=>h zc s σ H v u Q I r (i v σ H Q q)
abbrev GD(X:Cx)(EX:EXS)(tg:Expr)(fg:FG):Prop:=PG X tg (tG X.K EX fg)
section
variable{X:Cx}{EX:EXS}{pos:Pos}
def gV(i:Nat):FG:=fun d Δ=> .ok (Δ.set i (.sh d))
theorem m_5{i:Nat}{x:Str}(hN:X.N.Nodup)(hi:X.N[i]? =some x:=by rfl)(hx:Loc X.env.scope x:=by first|exact Or.inl rfl|exact Or.inr rfl)
  (hf:X.fn x=true∨X.env.scope.names.lookup x=some .local:=by first|exact .inl rfl|exact .inr rfl|assumption):GD X EX (.Name x pos) (gV i):=
 PG.imp (au_9 hN hi hx hf) fun v σ H Q ⟨H0,G0,G,Δ,O,d,E,r,q⟩=>q _ G H O (E.put r) (Same.refl _)
def gV2(i j:Nat):FG:=fun d Δ=>match d with
 | .tup [a,b]=> .ok ((Δ.set i (.sh a)).set j (.sh b))
 |_=> .no
theorem ah_6{i j k:Nat}{x y:Str}{p1 p2:Pos}(hc:X.calm=true)(hN:X.N.Nodup)(hi:X.N[i]? =some x:=by rfl)(hj:X.N[j]? =some y:=by rfl)(hx:Loc X.env.scope x:=by first|exact Or.inl rfl|exact Or.inr rfl)(hy:Loc X.env.scope y:=by first|exact Or.inl rfl|exact Or.inr rfl)
  (hf:X.fn x=true∨X.env.scope.names.lookup x=some .local:=by first|exact .inl rfl|exact .inr rfl|assumption) (hf2:X.fn y=true∨X.env.scope.names.lookup y=some .local:=by first|exact .inl rfl|exact .inr rfl|assumption)
  (hn:(assignEach [.Name x p1, .Name y p2] X.env).length=2:=by rfl) (hst:(assignEach [.Name x p1, .Name y p2] X.env).findIdx? (·.1)=none:=by rfl)
  (hs:(assignEach [.Name x p1, .Name y p2] X.env).map (·.2)=assign (.Name x p1) X.env::(assignEach [.Name y p2] X.env).map (·.2):=by rfl) (hs2:(assignEach [.Name y p2] X.env).map (·.2)=assign (.Name y p2) X.env::(assignEach [] X.env).map (·.2):=by rfl):
  GD X EX (.Tuple [.Name x p1, .Name y p2] k pos) (gV2 i j):=
 PG.imp (dp_6 hc (bs_8 (au_9 hN hi hx hf) (bs_8 (au_9 hN hj hy hf2) de_8 hs2) hs) hn hst) fun v σ H Q ⟨H0,G0,G,Δ,O,d,E,r,q⟩=>by
  cases r with
  |tup h r=>
   cases r with
   |nil=>exact False.elim q
   |cons r1 r=>
    cases r with
    |nil=>exact False.elim q
    |cons r2 r=>
     cases r with
     |nil=>exact⟨_,_,rfl,Same.tupS E.st.gh h,rfl,_,_,rfl,_,_,rfl,rfl,q _ G H O ((E.put r1).put r2) (Same.refl _)⟩
     |cons _ _=>exact False.elim q
  |_=>exact False.elim q
def l_2(fg:FG)(g:FS):List D→FS
 | []=>fun Δ=> .nx Δ
 |d::ds=>fun Δ=>match fg d Δ with
  | .ok Δ1=>(match g Δ1 with
   | .nx Δ2=>l_2 fg g ds Δ2
   | .ct Δ2=>l_2 fg g ds Δ2
   | .bk Δ2=> .nx Δ2
   |r=>r)
  | .ex _=> .no
  | .no=> .no
def g_1(js:List Nat)(fi:FI)(fg:FG)(g:FS):FS:=fun Δ=>match fi (vsh Δ) with
 | .ok ds=>l_2 fg g ds Δ
 | .ex x=> .ex x Δ
 | .no=>match fi (vsh (gsome js Δ)) with
  | .ok ds=>l_2 fg g ds (gsome js Δ)
  | .ex x=> .ex x (gsome js Δ)
  | .no=> .no
theorem ac_4{α:Type}{l:List α}{i:Nat}(h:i < l.length):∃x,l[i]? =some x∧l.drop i=x::l.drop (i + 1):=⟨l[i],by simp [h],List.drop_eq_getElem_cons h⟩
theorem bg_9{fg:FG}{g:FS}{H0:HB}{G0 G1 H1:Hp}{J:It}{ds:List D}{Δ:SE}{O:OS}{σ:Sg}{D:Ends}(E:Ev K H0 G0 G1 H1 σ Δ O)(it:ItD K G1 J ds)(q:Fin K EX H0 G0 G1 D (l_2 fg g ds Δ)):
  ∃W:Nat→Nat→Sg→Hp→Prop,(∃m,W 0 m σ H1)∧∀i m σ H,W i m σ H→
   (J.stop i H∧D.nx σ H)∨(J.go i H∧∃N:Sg→Hp→Prop,(∀σ' H',N σ' H'→∃m',m' < m∧W (i + 1) m' σ' H')∧∀x H',J.yld i H x H'→tG K EX fg x σ H' fun σ2 H2=>tS K EX g {D with nx:=N,ct:=N,bk:=D.nx} σ2 H2):=by
 refine⟨fun i m σ H=>m=ds.length - i∧i≤ds.length∧∃G Δ O,Ev K H0 G0 G H σ Δ O∧Same G1 G∧Fin K EX H0 G0 G1 D (l_2 fg g (ds.drop i) Δ),⟨ds.length,by simp,Nat.zero_le _,G1,Δ,O,E,Same.refl _,q⟩, ?_⟩
 rintro i m σ H ⟨rfl,hi,G,Δ,O,E,sg,q⟩
 obtain⟨i1,i2⟩:=it G H sg E.st.gh i
 by_cases hlt:i < ds.length
 ·obtain⟨d,e1,e2⟩:=ac_4 hlt;obtain⟨go,yl⟩:=i1 d e1;refine .inr ⟨go,fun σ' H'=>∃G Δ O,Ev K H0 G0 G H' σ' Δ O∧Same G1 G∧Fin K EX H0 G0 G1 D (l_2 fg g (ds.drop (i + 1)) Δ),fun σ' H' w=>⟨ds.length - (i + 1),by omega,rfl,hlt,w⟩,fun x H' y=> ?_⟩;obtain⟨G',st,hx⟩:=yl x H' y;rw [e2] at q;refine⟨H0,G0,G',Δ,O,d,E.grow st,hx, ?_⟩;have q':Fin K EX H0 G0 G1 D (match fg d Δ with
   | .ok Δ1=>(match g Δ1 with
    | .nx Δ2=>l_2 fg g (ds.drop (i + 1)) Δ2
    | .ct Δ2=>l_2 fg g (ds.drop (i + 1)) Δ2
    | .bk Δ2=> .nx Δ2
    |r=>r)
   | .ex _=> .no
   | .no=> .no):=q
  cases e3:fg d Δ with
  |ok Δ1=>
   rw [e3] at q';intro σ2 G2 H2 O2 E2 s2;have s12:Same G1 G2:=sg.trans (st.gg.trans s2);refine⟨H0,G0,G2,Δ1,O2,E2, ?_⟩;cases e4:g Δ1 with
   |nx Δ2=>simp only [e4] at q';exact fun σ3 G3 H3 O3 E3 s3=>⟨G3,Δ2,O3,E3,s12.trans s3,q'⟩
   |ct Δ2=>simp only [e4] at q';exact fun σ3 G3 H3 O3 E3 s3=>⟨G3,Δ2,O3,E3,s12.trans s3,q'⟩
   |bk Δ2=>simp only [e4] at q';exact fun σ3 G3 H3 O3 E3 s3=>q' σ3 G3 H3 O3 E3 (s12.trans s3)
   |rt w=>simp only [e4] at q';exact q'
   |ex x Δ2=>simp only [e4] at q';exact fun σ3 G3 H3 O3 E3 s3=>q' σ3 G3 H3 O3 E3 (s12.trans s3)
   |no=>simp only [e4] at q';exact q'
  |ex x=>rw [e3] at q';exact q'
  |no=>rw [e3] at q';exact q'
 ·have e:ds.length=i:=by omega
  refine .inl ⟨i2 e, ?_⟩;rw [List.drop_eq_nil_of_le (by omega)] at q;exact q σ G H O E sg
theorem i_5{tg iter:Expr}{body:List Stmt}{fi:FI}{fg:FG}{g:FS}(js:List Nat)(hp:PassesOwn (model X.prog X.w) X.A X.env X.xe)(hc:X.calm=true)(hi:ID X EX tg iter fi)(hg:GD X EX tg fg)(hb:BD X EX body g)
  (hs:∀x,foldedSetIterable iter X.env x=pure x:=by intro _;rfl):SD X EX (.For tg iter body [] pos) (g_1 js fi fg g):=
 PS.imp (dp_8 hp hc hi hg hb hs) fun D σ H ⟨H0,G0,G,Δ,O,E,q⟩=>by
  unfold g_1 at q;cases e1:fi (vsh Δ) with
  |ok ds=>
   rw [e1] at q;refine⟨G,vsh Δ,E.st.gh,E.gsh, ?_⟩;rw [e1];exact fun J G' H' st it=>bg_9 (E.grow st) it (Fin.mono st.gg q)
  |ex x=>
   rw [e1] at q;exact⟨G,vsh Δ,E.st.gh,E.gsh,by rw [e1];exact q σ G H O E (Same.refl _)⟩
  |no=>
   rw [e1] at q;obtain⟨G1,O1,sg,E1⟩:=E.gsome js;refine⟨G1,vsh (gsome js Δ),E1.st.gh,E1.gsh, ?_⟩;cases e2:fi (vsh (gsome js Δ)) with
   |ok ds=>
    simp only [e2] at q;exact fun J G' H' st it=>bg_9 (E1.grow st) it (Fin.mono (sg.trans st.gg) q)
   |ex x=>simp only [e2] at q;exact q σ G1 H O1 E1 sg
   |no=>simp only [e2] at q;exact q
def sApp(i:Nat)(f:FE):FS:=fun Δ=>match Δ[i]? with
 |some (.ow (.lst ds))=>if ds.length < 16777216 then(match f (vsh Δ) with
   | .ok w=> .nx (Δ.set i (.ow (.lst (ds ++ [w.d]))))
   | .ex x=> .ex x Δ
   | .no=>match f (vall Δ) with
    | .ok w=>if flatD w.d=true then .nx (Δ.set i (.ow (.lst (ds ++ [w.d])))) else .no
    |_=> .no) else .no
 |_=> .no
theorem ao_3{i:Nat}{x:Str}{e:Expr}{f:FE}{p1 zf zd:Pos}(he:ED X EX e f)(hN:X.N[i]? =some x:=by rfl)(hv:Vis X.env.scope x:=by first|exact Or.inl rfl|exact Or.inr (Or.inl rfl)|exact Or.inr (Or.inr rfl))(hd:(x ==("__debug__" :Str))=false:=by decide)
  (hcd:(x ==("__classdict__" :Str))=false:=by decide) (hsw:swapsWith (.Call (.Attribute (.Name x p1) "append" zf) [e] [] zd) none pos.line X.env=pure false:=by rfl)
  (ae:attributeBase (.Name x p1) "append" X.env (eval (.Name x p1) X.env)=eval (.Name x p1) X.env:=by rfl)
  (ay:((backTo zd (starEach [e] X.env)).all (fun x=> !x.1) && (backToKw zd (keywordEach [] X.env)).all (fun x=>x.1.isSome)
   && decide ([e].length + ([]:List Keyword).length + (if([]:List Keyword).isEmpty then 0 else 1) < 30))=true:=by rfl)
  (af:(zf.endLine ==zd.line)=true:=by rfl) (hs:starEach [e] X.env=(false,eval e X.env)::starEach [] X.env:=by rfl) (aa:(backTo zd (starEach [] X.env)).any (·.1)=false:=by rfl):
  SD X EX (.Expr (.Call (.Attribute (.Name x p1) "append" zf) [e] [] zd) pos) (sApp i f):=
 PS.imp (aj_2 (cu_5 PySem.F.plainAttrs_list PySem.F.slot_list_append PySem.F.type_list_append bf_8 (h_4 hN hv hd hcd) (k_6 he x_6 hs) ae ay af hs aa) hsw) fun D σ H ⟨H0,G0,G,Δ,O,E,q⟩=>by
  unfold sApp at q
  split at q
  ·rename_i ds e1
   split at q
   ·rename_i hz;obtain⟨v0,s1,t⟩:=E.ow i _ _ e1 rfl;obtain⟨a,vs,rfl,m,hH,rl⟩:=t.list_of
    ·skip
     refine⟨.ref a,s1, .inl ⟨rfl,_,SqL.of hH⟩, ?_⟩;have fin:∀{G' H':Hp} {v:V} {d:L3.D},Ev X.K H0 G0 G' H' σ Δ O→Same G G'→H' a=some (.lst vs)→HasL X.K G' vs ds→Has X.K G' v d→Fin X.K EX H0 G0 G D (.nx (Δ.set i (.ow (.lst (ds ++ [d])))))→
       ch_7 (.ref a) [v] H' fun _ H1=>D.nx σ H1:=fun{G' H' v d} E' sg hH' r' hv' q'=>
      ⟨a,vs,v,rfl,rfl,hH',by rw [r'.length,sizeLine_eq];exact hz,q' σ G' _ _ (E'.writeL s1 m (r'.append (.cons hv' .nil))) sg⟩
     cases e2:f (vsh Δ) with
     |ok w=>
      simp only [e2] at q;refine⟨G,vsh Δ,E.st.gh,E.gsh, ?_⟩;rw [e2];exact WP.intro fun v G' H' st r=>fin (E.grow st) st.gg (st.hh _ _ hH) (rl.mono st.gg) r q
     |ex x=>
      simp only [e2] at q;exact⟨G,vsh Δ,E.st.gh,E.gsh,by rw [e2];exact q σ G H O E (Same.refl _)⟩
     |no=>
      simp only [e2] at q;refine⟨u_9 G H O,vall Δ,E.aH,E.gall, ?_⟩;cases e3:f (vall Δ) with
      |ok w=>
       simp only [e3] at q
       split at q
       ·rename_i fl;exact WP.intro fun v G' H' st r=>fin (E.keep st.hh) (Same.refl _) (st.hh _ _ hH) rl (r.ofFl fl) q
       ·exact q.elim
      |ex x=>simp only [e3] at q;exact q.elim
      |no=>simp only [e3] at q;exact q
   ·exact q.elim
  ·exact q.elim
end
def j_6(X:Cx)(scope:Scope)(cl:List (Str×Addr))(N':List Str)(C:Addr)(s0:Shared)(H0:Hp)(fp:List Addr)(pn:List (Addr×Obj)):Cx where
 prog:=X.prog
 w:=X.w
 K:=X.K
 mg:=X.mg
 base:=X.base
 A:=X.A
 N:=N'
 s₀:=s0
 H₀:=H0
 env:=compEnvC scope cl C X.env
 outer:=X.stack
 stack:=X.stack
 ex:=fp
 fn:=fun _=>false
 calm:=X.calm
 pn:=pn
 xe:=fun _ _=>False
abbrev FGc:=D→DE→R DE
def tGc(K:Frag)(EX:EXS)(fg:FGc):TG:=fun v σ H Q=>∃G δ d,Same G H∧HasS K G σ δ∧Has K G v d∧match fg d δ with
 | .ok δ'=>∀σ',HasS K G σ' δ'→HasS K G σ' δ→Q σ' H
 | .ex x=>(EX σ).p x G H
 | .no=>False
abbrev GC(X:Cx)(EX:EXS)(tg:Expr)(fg:FGc):Prop:=PG X tg (tGc X.K EX fg)
def CTs(X:Cx)(EX:EXS)(ifs:List Expr)(p:FT):Prop:=
 ∀(zc:List (Addr×Obj)) (s:Shared) (σ:Sg) (H:Hp) (Q:Bool→Hp→Prop),Inv X zc σ H s→tDt X.K EX p σ H Q→
  wpAny (model X.prog X.w) X.A (forIn ifs true fun c r=>if r=true then do let ok←isTrue c X.env (eval c X.env);pure (ForInStep.yield ok) else pure (ForInStep.yield r)) (TP X zc σ Q) X.xe s
section
variable{X:Cx}{EX:EXS}{pos:Pos}
def gC(i:Nat):FGc:=fun d δ=>match δ[i]? with
 |some none=> .ok (δ.set i (some d))
 |_=> .no
theorem HasS.put{G:Hp}{σ:Sg}{δ:DE}{d:D}(h:HasS K G σ δ)(r:Has K G v d)(i:Nat):HasS K G (σ.set i (some v)) (δ.set i (some d)):=by
 refine⟨by rw [List.length_set,List.length_set];exact h.len,fun j d' e=> ?_⟩;rcases i_3 e with⟨rfl,q⟩|⟨n,q⟩
 ·cases q;have hlt:i < δ.length:=by
   by_cases hh:i < δ.length
   ·exact hh
   ·rw [List.getElem?_eq_none (by rw [List.length_set];omega)] at e;cases e
  exact⟨v,by rw [List.getElem?_set_self (by rw [h.len];exact hlt)],r⟩
 ·obtain⟨v',e1,r'⟩:=h.get j d' q;exact⟨v',by rw [List.getElem?_set_ne n];exact e1,r'⟩
theorem dh_3{i:Nat}{x:Str}(hN:X.N.Nodup)(hi:X.N[i]? =some x:=by rfl)(hx:Loc X.env.scope x:=by first|exact Or.inl rfl|exact Or.inr rfl)
  (hf:X.fn x=true∨X.env.scope.names.lookup x=some .local:=by first|exact .inl rfl|exact .inr rfl|assumption):GC X EX (.Name x pos) (gC i):=
 PG.imp (au_9 hN hi hx hf) fun v σ H Q ⟨G,δ,d,g,s,r,q⟩=>by
  unfold gC at q;cases e:δ[i]? with
  |none=>rw [e] at q;exact q.elim
  |some o=>
   rw [e] at q;cases o with
   |some _=>exact q.elim
   |none=>
    refine q _ (s.put r i) ⟨by rw [List.length_set];exact s.len,fun j d' e'=> ?_⟩;obtain⟨v',e1,r'⟩:=s.get j d' e';refine⟨v', ?_,r'⟩;rw [List.getElem?_set_ne]
    ·exact e1
    ·rintro rfl
     rw [e] at e';cases e'
theorem s_5:CTs X EX [] (fun _=> .ok true):=fun zc s σ H Q I ⟨G,δ,g,h,q⟩=>wpAny_tests_nil ⟨H,I,q G H (Step.refl g)⟩
theorem ax_8{c:Expr}{p:FT}(h:TD X EX c p):CTs X EX [c] p:=fun zc s σ H Q I q=>wpAny_tests_one (h zc s σ H Q I q)
def n_0(fg:FGc)(p:FT)(f:FE)(δ:DE):List D→R (List D)
 | []=> .ok []
 |d::ds=>(fg d δ).bind fun δ1=>(p δ1).bind fun b=>if b=true then(f δ1).bind fun w=>(n_0 fg p f δ ds).bind fun rs=> .ok (w.d::rs) else n_0 fg p f δ ds
def R.calm{α:Type}:R α→R α
 | .ok w=> .ok w
 |_=> .no
@[simp] theorem R.calm_ok{α:Type}(a:α):(R.ok a).calm= .ok a:=rfl
@[simp] theorem R.calm_ex{α:Type}(x:Xn):(R.ex x:R α).calm= .no:=rfl
@[simp] theorem R.calm_no{α:Type}:(R.no:R α).calm= .no:=rfl
def c_1(m:Nat)(fi:FI)(fg:FGc)(p:FT)(f:FE):FE:=fun δ=>((fi δ).bind fun ds=>if ds.length≤16777216 then(n_0 fg p f (δ ++ List.replicate m none) ds).bind fun rs=> .ok (.ow (.lst rs)) else .no).calm
theorem R.calm_never{α:Type}{r:R α}{x:Xn}(h:r.calm= .ex x):False:=by
 cases r <;> cases h
theorem bu_6{m:Nat}{fi:FI}{fg:FGc}{p:FT}{f:FE}{δ:DE}{x:Xn}(h:c_1 m fi fg p f δ= .ex x):False:=R.calm_never h
@[reducible] def ds_5(prog:Program)(w:World)(A:Around)(env:Env)(tg elt:Expr)(ifs:List Expr)(it zm:Value)(bad:Value→Shared→Prop)(fin more:Shared→Prop):Option Value→Shared→Prop
 |none=>fin
 |some v=>wpAny (model prog w) A (letOwnedTupleGo tg it v) (fun _=>wpAny (model prog w) A (assign tg env v) (fun _=>
   wpAny (model prog w) A (forIn ifs true fun c r=>if r=true then do let ok←isTrue c env (eval c env);pure (ForInStep.yield ok) else pure (ForInStep.yield r)) (fun ok=>
    if ok=true then wpAny (model prog w) A (eval elt env) (fun x=>wpAny (model prog w) A (call (.builtin "list.append") [zm,x]) (fun _=>more) bad) bad else more) bad) bad) bad
theorem cd_3{prog:Program}{w:World}{A:Around}{R:Result→Shared→Prop}{s:Shared}{elt target iter:Expr}{ifs:List Expr}{scope:Scope}{it zm:Value}{env:Env}(I:Nat→Shared→Prop)
  (turn:∀n s,I n s→wpAny (model prog w) A (pyNext it) (ds_5 prog w A env target elt ifs it zm (notedBy (model prog w) A env fun e=>R (.error e)) (R (.ok .next)) fun s'=>∃m,m < n∧I m s') (notedBy (model prog w) A env fun e=>R (.error e)) s)
  (n:Nat) (h:I n s):codeAny (model prog w) A (.compLoop (.ListComp elt [⟨target,iter,ifs,0⟩] scope pos) 0 it zm env) R s:=by
 refine codeAny_loop rfl I (fun k t hk=>wpAny_noted (env:=env) (m:=compTurn (.ListComp elt [⟨target,iter,ifs,0⟩] scope pos) 0 it zm env) (compTurn_list .. ▸ ?_)) n h;refine wpAny_bind (wpAny_standAt (wpAny_bind (thn (turn k t hk) ?_)))
 rintro (_|v) t1 g1
 ·exact wpAny_pure g1
 refine wpAny_bind (thn g1 fun _ t2 g2=>wpAny_bind (thn g2 fun _ t3 g3=>wpAny_bind (thn g3 ?_)))
 rintro (_|_) t4 g4
 ·exact wpAny_pure ⟨rfl,g4⟩
 ·exact wpAny_bind (wpAny_bind (thn g4 fun _ t5 g5=>wpAny_bind (thn g5 fun _ t6 g6=>wpAny_pure (wpAny_pure ⟨rfl,g6⟩))))
structure CompN(X:Cx)(scope:Scope)(cl:List (Str×Addr))(N':List Str):Prop where
 clos:closureFor scope X.env=pure cl
 cell:∀y∈scope.names,y.2≠ .cell
 kind:scope.kind= .function
 names:∀y∈scope.names,y.2= .local→scope.names.lookup y.1=some .local
 sub:∀x c,cl.lookup x=some c→X.env.cells.lookup x=some c
 has:∀x,((relabel scope X.env).names.lookup x=some .cell∨(relabel scope X.env).names.lookup x=some .free)→∃c,cl.lookup x=some c
 old:∀(i:Nat) (x:Str),N'[i]? =some x→i < X.N.length→Vis (relabel scope X.env) x→X.N[i]? =some x∧(X.env.scope.names.lookup x=some .cell∨X.env.scope.names.lookup x=some .free)∧(∃c,cl.lookup x=some c)∧((relabel scope X.env).names.lookup x=some .cell∨(relabel scope X.env).names.lookup x=some .free)
def p_7(cells:List (Str×Addr)):List (Str×NameKind)→List (Str×Addr)→List (Str×Addr)
 | [],zm=>zm
 |(x,k)::r,zm=>p_7 cells r (if k= .free then(x,(cells.lookup x).getD 0)::zm else zm)
theorem bc_9{scope:Scope}{env:Env}(h:∀p∈scope.names,p.2= .free→∃c,env.cells.lookup p.1=some c):closureFor scope env=pure (p_7 env.cells scope.names []):=by
 have all:∀(names:List (Str×NameKind)) (zm:List (Str×Addr)),(∀p∈names,p.2= .free→∃c,env.cells.lookup p.1=some c)→
   (forIn names zm fun(x:Str×NameKind) (r:List (Str×Addr))=>if(x.2 == .free)=true then do let a←cellOf env x.1;pure (ForInStep.yield ((x.1,a)::r)) else pure (ForInStep.yield r):Sem (List (Str×Addr)))=pure (p_7 env.cells names zm):=by
  intro names
  induction names with
  |nil=>intro zm _;rfl
  |cons p r ih=>
   intro zm hp;obtain⟨x,k⟩:=p;rw [List.forIn_cons]
   by_cases hk:k= .free
   ·subst hk;obtain⟨c,e⟩:=hp (x, .free) List.mem_cons_self rfl;have e1:cellOf env x=pure c:=by unfold cellOf;rw [show env.cells.lookup x=some c from e]
    simp only [beq_self_eq_true,if_true,e1,pure_bind];rw [ih _ fun q hq=>hp q (List.mem_cons_of_mem _ hq)];show _=pure (p_7 env.cells r (if NameKind.free= .free then(x,(env.cells.lookup x).getD 0)::zm else zm));rw [if_pos rfl,show env.cells.lookup x=some c from e];rfl
   ·have hb:(k ==NameKind.free)=false:=by simpa using hk
    simp only [hb,Bool.false_eq_true,if_false,pure_bind];rw [ih _ fun q hq=>hp q (List.mem_cons_of_mem _ hq)];show _=pure (p_7 env.cells r (if k= .free then(x,(env.cells.lookup x).getD 0)::zm else zm));rw [if_neg hk]
 unfold closureFor;have:=all scope.names [] h;simpa using this
theorem bu_7{cells:List (Str×Addr)}{q:Str×Addr}:∀{names:List (Str×NameKind)} {zm:List (Str×Addr)},q∈p_7 cells names zm→q∈zm∨((q.1,NameKind.free)∈names∧q.2=(cells.lookup q.1).getD 0)
 | [],zm,h=> .inl h
 |(x,k)::r,zm,h=>by
  rcases bu_7 (names:=r) h with h|⟨h1,h2⟩
  ·split at h
   ·rename_i hk;rcases List.mem_cons.mp h with rfl|h
    ·exact .inr ⟨by rw [hk];exact List.mem_cons_self,rfl⟩
    ·exact .inl h
   ·exact .inl h
  ·exact .inr ⟨List.mem_cons_of_mem _ h1,h2⟩
theorem bu_8{cells:List (Str×Addr)}{x:Str}:∀{names:List (Str×NameKind)} {zm:List (Str×Addr)},(zm.lookup x).isSome=true→((p_7 cells names zm).lookup x).isSome=true
 | [],zm,h=>h
 |(y,k)::r,zm,h=>by
  refine bu_8 (names:=r) ?_
  split
  ·rw [List.lookup_cons]
   split
   ·rfl
   ·exact h
  ·exact h
theorem bu_9{cells:List (Str×Addr)}{x:Str}:∀{names:List (Str×NameKind)} {zm:List (Str×Addr)},(x,NameKind.free)∈names→((p_7 cells names zm).lookup x).isSome=true
 |(y,k)::r,zm,h=>by
  rcases List.mem_cons.mp h with h|h
  ·cases h;refine bu_8 (names:=r) ?_;rw [if_pos rfl,List.lookup_cons];simp
  ·exact bu_9 (names:=r) h
theorem v_6{env:Env}:∀(names:List (Str×NameKind)) (x:Str),
  (names.map fun(n,k)=>if(k ==NameKind.free && env.scope.kind == .function && env.kindOf n ==some .cell) then(n,NameKind.cell) else(n,k)).lookup x=(names.lookup x).map fun k=>if(k ==NameKind.free && env.scope.kind == .function && env.kindOf x ==some .cell)=true then NameKind.cell else k
 | [],x=>rfl
 |(n,k)::r,x=>by
  have ih:=v_6 (env:=env) r x;show List.lookup x ((if(k ==NameKind.free && env.scope.kind == .function && env.kindOf n ==some .cell)=true then(n,NameKind.cell) else(n,k))::_)=_;cases hx:x ==n with
  |true=>
   have e:x=n:=eq_of_beq hx;subst e
   by_cases hc:(k ==NameKind.free && env.scope.kind == .function && env.kindOf x ==some .cell)=true
   ·rw [if_pos hc];simp only [List.lookup_cons,beq_self_eq_true,Option.map_some];rw [if_pos hc]
   ·rw [if_neg hc];simp only [List.lookup_cons,beq_self_eq_true,Option.map_some];rw [if_neg hc]
  |false=>
   by_cases hc:(k ==NameKind.free && env.scope.kind == .function && env.kindOf n ==some .cell)=true
   ·rw [if_pos hc];simp only [List.lookup_cons,hx];exact ih
   ·rw [if_neg hc];simp only [List.lookup_cons,hx];exact ih
def ar_0(inner outer:List (Str×NameKind))(N N':List Str):Bool:=
 (inner.all fun p=>p.2 != .cell && (p.2 != .local || inner.lookup p.1 ==some .local) && (p.2 != .free || (outer.lookup p.1 ==some .cell || outer.lookup p.1 ==some .free))) &&
 (List.range N.length).all fun i=>match N'[i]? with
  |some x=>(match inner.lookup x with
   |some .free=>N[i]? ==some x && (outer.lookup x ==some .cell || outer.lookup x ==some .free)
   |some .local=>false
   |some .cell=>false
   |_=>true)
  |none=>true
theorem ax_9{scope:Scope}{N':List Str}(ok:X.Ok)(hk:scope.kind= .function)(hb:ar_0 scope.names X.env.scope.names X.N N'=true):CompN X scope (p_7 X.env.cells scope.names []) N':=by
 unfold ar_0 at hb;rw [Bool.and_eq_true] at hb;obtain⟨h1,h2⟩:=hb;have h1:=List.all_eq_true.mp h1;have h2:=List.all_eq_true.mp h2;have fr:∀p∈scope.names,p.2= .free→∃c,X.env.cells.lookup p.1=some c:=fun p hp hf=>by
  have z:=h1 p hp;simp only [hf,Bool.and_eq_true,Bool.or_eq_true,bne_iff_ne,beq_iff_eq] at z;exact ok.has p.1 (by
   rcases z.2 with z|z
   ·exact absurd rfl z
   ·exact z)
 have inn:∀x k,scope.names.lookup x=some k→(x,k)∈scope.names:=fun x k e=>PySem.mem_of_lookup e;have av:∀p∈scope.names,p.2≠ .cell:=fun p hp hc=>by
  have z:=h1 p hp;rw [hc] at z;simp at z
 have cy:∀x,scope.names.lookup x=some .free→∃c,(p_7 X.env.cells scope.names []).lookup x=some c:=fun x e=>Option.isSome_iff_exists.mp (bu_9 (inn x _ e));have dv:∀x,((relabel scope X.env).names.lookup x=some .cell∨(relabel scope X.env).names.lookup x=some .free)→scope.names.lookup x=some .free:=fun x h=>by
  unfold relabel at h;rw [v_6] at h;cases e:scope.names.lookup x with
  |none=>rw [e] at h;simp at h
  |some k=>
   rw [e] at h;have nc:=av (x,k) (inn x k e);cases k with
   |free=>rfl
   |cell=>exact absurd rfl nc
   |«local»=>simp at h
   |globalExplicit=>simp at h
   |globalImplicit=>simp at h
 refine⟨bc_9 fr,av,hk,fun y hy hl=> ?_,fun x c e=> ?_,fun x h=>cy x (dv x h),fun i x e hi hv=> ?_⟩
 ·have z:=h1 y hy;simp only [hl,Bool.and_eq_true,Bool.or_eq_true,bne_iff_ne,beq_iff_eq] at z;rcases z.1.2 with z|z
  ·exact absurd rfl z
  ·exact z
 ·rcases bu_7 (PySem.mem_of_lookup e) with z|⟨z1,z2⟩
  ·exact absurd z (by simp)
  ·obtain⟨c',e'⟩:=fr (x, .free) z1 rfl;have z2:c=(X.env.cells.lookup x).getD 0:=z2;have e':X.env.cells.lookup x=some c':=e';rw [e'] at z2⊢;cases z2;rfl
 ·have z:=h2 i (List.mem_range.mpr hi);rw [e] at z;dsimp only at z;have look:scope.names.lookup x=some .free∧(((relabel scope X.env).names.lookup x=some .cell∨(relabel scope X.env).names.lookup x=some .free)):=by
   unfold Vis relabel at hv;unfold relabel;rw [v_6] at hv⊢;cases q:scope.names.lookup x with
   |none=>rw [q] at hv;simp at hv
   |some k=>
    rw [q] at hv z;cases k with
    |free=>
     refine⟨rfl, ?_⟩
     by_cases hc:(X.env.scope.kind == .function && X.env.kindOf x ==some .cell)=true
     ·left;simp [Bool.and_assoc,hc]
     ·right;simp [Bool.and_assoc,hc]
    |cell=>simp at z
    |«local»=>simp at z
    |globalExplicit=>simp at hv
    |globalImplicit=>simp at hv
  rw [look.1] at z;simp only [Bool.and_eq_true,Bool.or_eq_true,beq_iff_eq] at z;exact⟨z.1,z.2,cy x look.1,look.2⟩
theorem co_6{elt iter tg:Expr}{ifs:List Expr}{scope:Scope}{N':List Str}{fi:FI}{fg:FGc}{p:FT}{f:FE}{m:Nat}(hx0:∀e s,¬X.xe e s)(hc:X.calm=true)(hk:scope.kind= .function)(hb:ar_0 scope.names X.env.scope.names X.N N'=true)
  (hm:N'.length=X.N.length + m)
  (hin:∀C s0 H0 fp pn,GC (j_6 X scope (p_7 X.env.cells scope.names []) N' C s0 H0 fp pn) q_8 tg fg∧CTs (j_6 X scope (p_7 X.env.cells scope.names []) N' C s0 H0 fp pn) q_8 ifs p∧ED (j_6 X scope (p_7 X.env.cells scope.names []) N' C s0 H0 fp pn) q_8 elt f)
  {zc:List (Addr×Obj)} {s:Shared} {σ:Sg} {δ:DE} (I:Inv X zc σ H s) {Z:Hp→Hp→Prop} (hZ:∀G2 H2,Z G2 H2→Same G2 H2∧HasS X.K G2 σ δ)
  (hit:wpAny (model X.prog X.w) X.A (eval iter X.env) (fun xv s₁=>wpAny (model X.prog X.w) X.A (pyIter xv) (fun itv s₂=>∃(it:Addr) (fp:List Addr) (tn:Nat→Heap→Prop) (J:It) (H2:Hp) (ds:List D) (G2:Hp),itv= .ref it∧Inv X zc σ H2 s₂∧Turn X.prog X.w X.K tg J fp it tn∧tn 0 s₂.heap∧(∀b∈fp,FpOk X zc H2 b)∧fi δ= .ok ds∧Z G2 H2∧ItD X.K G2 J ds) X.xe s₁) X.xe s)
  {RR:Value→Addr→Result→Shared→Prop}
  (o:match c_1 m fi fg p f δ with| .ok _=>True| .ex x=>False| .no=>False)
  (hRR:∀(Da C:Addr) (s1:Shared) (G2 H2 G' H':Hp) (vs:List V) (rs:List D),c_1 m fi fg p f δ= .ok (.ow (.lst rs))→Inv X zc σ H' s1→(∃m,s1.heap.Ns C m)→FpOk X zc H' C→Z G2 H2→Step G2 H2 G' H'→H2 Da=none→H' Da=some (.lst vs)→G' Da=none→HasL X.K G' vs rs→RR (.ref Da) C (.ok .next) s1):
  wpAny (model X.prog X.w) X.A (eval iter X.env) (fun x s₁=>wpAny (model X.prog X.w) X.A (pyIter x) (fun it s₂=>wpAny (model X.prog X.w) X.A (newList []) (fun zm s₃=>
   wpAny (model X.prog X.w) X.A (newFunctionEnv scope X.env.globals (p_7 X.env.cells scope.names []) [] X.env.qual none .none (some X.env)) (fun cenv s₄=>
    codeAny (model X.prog X.w) X.A (.compStart (.ListComp elt [⟨tg,iter,ifs,0⟩] scope pos) 0 it zm {cenv with scope:=relabel scope X.env}) (RR zm cenv.locals) s₄) X.xe s₃) X.xe s₂) X.xe s₁) X.xe s:=by
 have n:=ax_9 I.ok hk hb;generalize hcle:p_7 X.env.cells scope.names []=cl at n hin⊢;have cb:∀ds,fi δ= .ok ds→ds.length≤16777216∧(match n_0 fg p f (δ ++ List.replicate m none) ds with| .ok rs=>c_1 m fi fg p f δ= .ok (.ow (.lst rs))| .ex x=>False| .no=>False):=fun ds e=>by
  unfold c_1 at o⊢;simp only [e,R.bind_ok] at o⊢
  by_cases hz:ds.length≤16777216
  ·refine⟨hz, ?_⟩;rw [if_pos hz] at o⊢;cases e2:n_0 fg p f (δ ++ List.replicate m none) ds with
   |ok rs=>rfl
   |ex x=>rw [e2] at o;exact o
   |no=>rw [e2] at o;exact o
  ·rw [if_neg hz] at o;exact o.elim
 
 refine wpAny_mono hit (fun xv s₁ h₁=>wpAny_mono h₁ (fun itv s₂ h₂=> ?_) fun _ _ e=>(hx0 _ _ e).elim) fun _ _ e=>(hx0 _ _ e).elim;obtain⟨it,fp,tn,J,H2,ds,G2,rfl,I2,T,st2,f2,e2,hz2,itd⟩:=h₂;obtain⟨sg2,h0⟩:=hZ G2 H2 hz2;obtain⟨hz,o⟩:=cb ds e2
 
 have hfD:H2 s₂.heap.objs.size=none:=I2.hok.fresh (Nat.le_refl _);refine wpAny_newObj_type (wpAny_newFunctionEnv n.cell (by intro y hy;simp at hy) (fun h₁ hns₁ hsb₁=> ?_) n.kind);dsimp only at hns₁ hsb₁⊢;generalize hDa:s₂.heap.objs.size=Da at hfD;have hDn: @Eq Nat s₂.heap.objs.size Da:=hDa;have I3:Inv X zc σ (upd H2 Da (.lst [])) {s₂ with heap:=s₂.heap.push {cls:= .type "list",dict:=none,data:= .seq ([]:List Value).toArray}}:=by
  rw [←hDa];exact I2.lnew (t':=s₂.toks) .nil (Nat.zero_le _)
 generalize hH3:s₂.heap.push {cls:= .type "list",dict:=none,data:= .seq ([]:List Value).toArray}=hp3 at hns₁ hsb₁ I3⊢;have hC:hp3.objs.size=Da + 1:=by rw [←hH3,Heap.size_push,hDa]
 generalize hCe:hp3.objs.size=C at hns₁ hsb₁ hC;have hCn: @Eq Nat hp3.objs.size C:=hCe;have hC2: @Eq Nat C (Da + 1):=hC;have fq:∀b o,s₂.heap.get? b=some o→hp3.get? b=some o:=fun b o e=>by rw [←hH3];exact Heap.get?_push_of_some _ e
 have up:∀b o,hp3.get? b=some o→h₁.get? b=some o:=fun b o e=>hsb₁.extBut b o (Nat.ne_of_lt (show @LT.lt Nat _ b C by rw [←hCn];exact Heap.lt_size e)) (Heap.get?_push_of_some _ e)
 
 have fpC:∀b∈fp,b < s₂.heap.objs.size:=fun b hb=>by
  obtain⟨o,e,_⟩:=T.obj _ _ st2 b hb;exact Heap.lt_size e
 have hcl:∀x c,cl.lookup x=some c→c < hp3.objs.size∧c∉fp∧(upd H2 Da (.lst [])) c=none:=fun x c e=>by
  have e':=n.sub x c e;obtain⟨v,hv⟩:=I3.cell x c e';exact⟨hv.lt,fun z=>(f2 c z).2.2.2.2.1 x c e' rfl,I3.freeC x c e'⟩
 let X':=j_6 X scope cl N' C {s₂ with heap:=hp3} (upd H2 Da (.lst [])) fp (X.pn ++ zc)
 have ok':X'.Ok:=by
  refine⟨I.ok.mod,n.kind,I.ok.glob,I.ok.blt,Nat.le_of_eq hCe,fun x y c h1 h2=>I.ok.inj x y c (n.sub x c h1) (n.sub y c h2),fun x hx=>n.has x hx,fun x c z=> ?_,I.ok.hd,I.ok.frames, .inl rfl,fun b hb=>⟨?_,fun x c e z=> ?_⟩,fun b o e=> ?_, ?_,fun b o e hb=> ?_,fun b hb z=> ?_,I3.stack,I3.stkFree⟩
  ·exact absurd z Bool.false_ne_true
  ·exact Nat.ne_of_lt (Nat.lt_of_lt_of_le (fpC b hb) (show @LE.le Nat _ s₂.heap.objs.size C by omega))
  ·subst z;exact(hcl x c e).2.1 hb
  ·exact I3.bs b o e
  ·exact Nat.le_trans I.ok.bsz I3.sz
  ·rcases(f2 b hb).2.2.2.1 with z|z
   ·exact I.ok.noex b o e z
   ·exact absurd (Heap.lt_size (I.ok.bs b o e).1) (Nat.not_lt_of_le z)
  ·rcases List.mem_cons.mp (I3.stkSub b z) with z|z
   ·exact(f2 b hb).2.1 z
   ·exact(f2 b hb).2.2.1 z
 have lenσ:σ.length=X.N.length:=I.len;have I4:Inv X' [] (σ ++ List.replicate m none) (upd H2 Da (.lst [])) {s₂ with heap:=h₁,toks:=s₂.toks + ([]:List (Str×Value)).length}:=by
  refine⟨ok',rfl,I2.bare,Un.kept up,⟨_,hns₁,fun i x v e1 e2 e3=> ?_⟩,fun x c e=> ?_, ?_,fun x c e=>(hcl x c e).2.2,fun p hp=> ?_,I3.hok.kept up, ?_⟩
  ·have hi:i < σ.length:=by
    by_cases hh:i < σ.length
    ·exact hh
    ·rw [List.getElem?_append_right (by omega),List.getElem?_replicate] at e2
     split at e2 <;> cases e2
   rw [List.getElem?_append_left hi] at e2;obtain⟨n1,n2,⟨c,n3⟩,n4⟩:=n.old i x e1 (by omega) e3;obtain⟨mm,hnm,hl⟩:=I3.loc;obtain⟨u,r,l⟩:=hl i x v n1 e2 (.inr n2);refine⟨u,r, .inr ⟨n4,c,n3, ?_⟩⟩;have n3':=n.sub x c n3;rcases l with⟨k1,k2⟩|⟨k1,c',k2,k3⟩
   ·exfalso;have k1':X.env.scope.names.lookup x=some .local:=k1;rcases n2 with n2|n2
    ·rw [n2] at k1';cases k1'
    ·rw [n2] at k1';cases k1'
   ·rw [n3'] at k2;cases k2;exact k3.keeps up
  ·obtain⟨v,hv⟩:=I3.cell x c (n.sub x c e);exact⟨v,hv.keeps up⟩
  ·show upd H2 Da (.lst []) C=none;exact I3.hok.fresh (by show hp3.objs.size≤C;omega)
  ·have hp':p∈X.pn ++ zc:=by
    have hp2:p∈(X.pn ++ zc) ++ []:=hp
    rwa [List.append_nil] at hp2
   obtain⟨z1,z2,z3,z4,z5⟩:=I3.pin p hp';refine⟨up _ _ z1,z2, ?_,fun z=> ?_,z5⟩
   ·exact Nat.ne_of_lt (show @LT.lt Nat _ p.1 C by rw [←hCn];exact Heap.lt_size z1)
   ·rcases List.mem_cons.mp (I3.stkSub p.1 z) with z|z
    ·exact z3 z
    ·exact z4 z
  ·rw [List.length_append,List.length_replicate,lenσ];exact hm.symm
 obtain⟨hgc,hct,hel⟩:=hin C {s₂ with heap:=hp3} (upd H2 Da (.lst [])) fp (X.pn ++ zc);have hS4:HasS X.K G2 (σ ++ List.replicate m none) (δ ++ List.replicate m none):=by
  refine⟨by rw [List.length_append,List.length_append,List.length_replicate,List.length_replicate,h0.len],fun i d e=> ?_⟩
  by_cases hh:i < δ.length
  ·rw [List.getElem?_append_left hh] at e;obtain⟨v,e1,r⟩:=h0.get i d e;exact⟨v,by rw [List.getElem?_append_left (by rw [h0.len];exact hh)];exact e1,r⟩
  ·rw [List.getElem?_append_right (by omega),List.getElem?_replicate] at e
   split at e <;> cases e
 generalize hδ:δ ++ List.replicate m none=δ' at hS4 o;have stn:tn 0 h₁:=T.keep 0 _ _ st2 fun b hb o e=>up b o (fq b o e);have fpn:∀b∈fp,(upd H2 Da (.lst [])) b=none:=fun b hb=>by
  rw [b_0 (Nat.ne_of_lt (show @LT.lt Nat _ b Da by rw [←hDn];exact fpC b hb))];exact(f2 b hb).1
 have cu:∀{pl:List (Addr×Obj)} {H':Hp},pl= []→(∀b∈fp,H' b=none)→∀b∈fp,FpOk X' pl H' b:=fun{pl H'} hpl hn b hb=>by
  subst hpl;refine⟨hn b hb, ?_,fun z=> ?_, .inl hb,fun x c e z=> ?_,fun p hp z=> ?_⟩
  ·exact Nat.ne_of_lt (Nat.lt_of_lt_of_le (fpC b hb) (show @LE.le Nat _ s₂.heap.objs.size C by omega))
  ·rcases List.mem_cons.mp (I3.stkSub b z) with z|z
   ·exact(f2 b hb).2.1 z
   ·exact(f2 b hb).2.2.1 z
  ·subst z;exact(hcl x c e).2.1 hb
  ·have hp':p∈X.pn ++ zc:=by
    have hp2:p∈(X.pn ++ zc) ++ []:=hp
    rwa [List.append_nil] at hp2
   exact(f2 b hb).2.2.2.2.2 p hp' z
 have loop:∀s4:Shared,Inv X' [] (σ ++ List.replicate m none) (upd H2 Da (.lst [])) s4→tn 0 s4.heap→codeAny (model X.prog X.w) X.A (.compLoop (.ListComp elt [⟨tg,iter,ifs,0⟩] scope pos) 0 (.ref it) (.ref Da) (compEnvC scope cl C X.env)) (RR (.ref Da) C) s4:=by
  intro s4 I4 tn4;refine cd_3 (fun k s'=>∃i σ' H' G' vs rs,k=ds.length - i∧i≤ds.length∧Inv X' [] σ' H' s'∧tn i s'.heap∧(∀b∈fp,H' b=none)∧HasS X.K G' σ' δ'∧Step G2 H2 G' H'∧Same G2 G'∧H' Da=some (.lst vs)∧G' Da=none∧
   HasL X.K G' vs rs∧rs.length≤i∧(match n_0 fg p f δ' (ds.drop i) with| .ok rs2=>c_1 m fi fg p f δ= .ok (.ow (.lst (rs ++ rs2)))| .ex x=>False| .no=>False)) ?_ ds.length
   ⟨0,_,_,G2, [], [],by simp,Nat.zero_le _,I4,tn4,fpn,hS4,Step.own sg2 hfD _,Same.refl _,b_3,sg2.free hfD, .nil,Nat.zero_le _,by simpa using o⟩
  rintro k s' ⟨i,σ',H',G',vs,rs,rfl,hi,I',tni,fn',hS,st,sg,hD,gD,rl,hl,o'⟩
  obtain⟨i1,i2⟩:=itd G' H' sg st.gh i
  by_cases hlt:i < ds.length
  ·obtain⟨d,e1,e2⟩:=ac_4 hlt;obtain⟨go,yl⟩:=i1 d e1;refine thn (T.item X' rfl rfl rfl hc i [] s' σ' H' _ I' (cu rfl fn') tni go) fun r s1 ⟨u,hr,h1⟩=> ?_;subst hr;refine thn h1 fun _ s5 ⟨x,H5,I5,r5,y5,st5,fr5⟩=> ?_;obtain⟨G5,au,hx5⟩:=yl x H5 y5;have I5':=I5.pinned (cu rfl fr5) (T.obj _ _ st5);rw [e2] at o';have o1:match((fg d δ').bind fun δ1=>(p δ1).bind fun b=>if b=true then(f δ1).bind fun w=>(n_0 fg p f δ' (ds.drop (i + 1))).bind fun rs=> .ok (w.d::rs) else n_0 fg p f δ' (ds.drop (i + 1))) with| .ok rs2=>c_1 m fi fg p f δ= .ok (.ow (.lst (rs ++ rs2)))| .ex x=>False| .no=>False:=o'
   have hS5:HasS X.K G5 σ' δ':=hS.mono au.gg;refine wpAny_mono (hgc _ s5 σ' H5 x u (fun σ6 H6=>∃δ1,fg d δ'= .ok δ1∧H6=H5∧HasS X.K G5 σ6 δ1∧HasS X.K G5 σ6 δ') I5' r5 ⟨G5,δ',d,au.gh,hS5,hx5, ?_⟩) (fun _ s6 ⟨σ6,H6,I6,δ1,e6,eH,hS6,hS6'⟩=> ?_) fun _ _ z=>False.elim z
   ·cases e6:fg d δ' with
    |ok δ1=>exact fun σ6 h6 h6'=>⟨δ1,rfl,rfl,h6,h6'⟩
    |ex x=>rw [e6] at o1;exact o1
    |no=>rw [e6] at o1;exact o1
   subst eH;rw [e6] at o1;simp only [R.bind_ok] at o1;refine wpAny_mono (hct _ s6 σ6 H6 (fun b H7=>∃G7,p δ1= .ok b∧Step G5 H6 G7 H7) I6 ⟨G5,δ1,au.gh,hS6, ?_⟩) (fun b s7 ⟨H7,I7,G7,e7,stp7⟩=> ?_) fun _ _ z=>False.elim z
   ·cases e7:p δ1 with
    |ok b=>exact fun G7 H7 st7=>⟨G7,rfl,st7⟩
    |ex x=>rw [e7] at o1;exact o1
    |no=>rw [e7] at o1;exact o1
   rw [e7] at o1;simp only [R.bind_ok] at o1
   
   have gD7:G7 Da=none:=(au.trans stp7).nw Da gD (by rw [hD];simp);have hD7:H7 Da=some (.lst vs):=(au.trans stp7).hh _ _ hD;have bp:∀{σ9:Sg} {H9:Hp} {s9:Shared},Inv X' ([] ++ aw_8 fp s5.heap) σ9 H9 s9→tn (i + 1) s9.heap∧∀b∈fp,H9 b=none:=fun{σ9 H9 s9} I9=>
    ⟨T.keep _ _ _ st5 fun b hb o e=>(I9.pin (b,o) (List.mem_append_right _ (List.mem_append_right _ (z_8 hb e)))).1,fun b hb=>by
     obtain⟨o,e,d⟩:=T.obj _ _ st5 b hb;exact(I9.pin (b,o) (List.mem_append_right _ (List.mem_append_right _ (z_8 hb e)))).2.1⟩
   have hSk:∀{G9:Hp},Same G7 G9→HasS X.K G9 σ6 δ':=fun{G9} sm=>hS6'.mono (stp7.gg.trans sm);cases b with
   |false=>
    rw [if_neg Bool.false_ne_true] at o1⊢;exact⟨ds.length - (i + 1),by omega,i + 1,σ6,H7,G7,vs,rs,rfl,hlt,I7.unpinned,(bp I7).1,(bp I7).2,hSk (Same.refl _),st.trans (au.trans stp7),sg.trans (au.gg.trans stp7.gg),hD7,gD7,rl.mono (au.gg.trans stp7.gg),by omega,o1⟩
   |true=>
    rw [if_pos rfl] at o1⊢;refine wpAny_mono (hel _ s7 σ6 H7 (fun v H8=>∃w G8,f δ1= .ok w∧Step G7 H7 G8 H8∧Has X.K G8 v w.d) I7 ⟨G7,δ1,stp7.gh,hS6.mono stp7.gg, ?_⟩) (fun u8 s8 ⟨v8,H8,I8,r8,w8,G8,e8,stp8,hv8⟩=> ?_) fun _ _ z=>False.elim z
    ·cases e8:f δ1 with
     |ok w=>exact WP.intro fun v G8 H8 st8 r8=>⟨w,G8,rfl,st8,r8⟩
     |ex x=>rw [e8] at o1;exact o1
     |no=>rw [e8] at o1;exact o1
    rw [e8] at o1;simp only [R.bind_ok] at o1;have gD8:G8 Da=none:=stp8.nw Da gD7 (by rw [hD7];simp);have hD8:H8 Da=some (.lst vs):=stp8.hh _ _ hD7;have rl8:HasL X.K G8 vs rs:=rl.mono (au.gg.trans (stp7.gg.trans stp8.gg));refine wpAny_mono (bf_8 (X:=X') _ s8 σ6 H8 (.ref Da) [v8] (.ref Da) [u8] (fun _ H9=>H9=upd H8 Da (.lst (vs ++ [v8]))) I8 rfl (.cons r8 .nil) ⟨Da,vs,v8,rfl,rfl,hD8,by rw [rl.length,sizeLine_eq];omega,rfl⟩) (fun _ s9 ⟨_,H9,I9,_,e9⟩=> ?_) fun _ _ z=>False.elim z;subst e9;have stA:=st.trans (au.trans (stp7.trans stp8));refine⟨ds.length - (i + 1),by omega,i + 1,σ6,_,G8,vs ++ [v8],rs ++ [w8.d],rfl,hlt,I9.unpinned,(bp I9).1,(bp I9).2,hSk stp8.gg,⟨fun b o z=> ?_,fun b o z=> ?_,stA.gg,stA.nw⟩,sg.trans (au.gg.trans (stp7.gg.trans stp8.gg)),b_3,gD8,rl8.append (.cons hv8 .nil),by rw [List.length_append,List.length_singleton];omega, ?_⟩
    ·rw [b_0 (d_5 z hfD)];exact stA.hh b o z
    ·rw [b_0 (d_5 z gD8)];exact stp8.gh b o z
    ·cases e10:n_0 fg p f δ' (ds.drop (i + 1)) with
     |ok rs2=>
      rw [e10] at o1;simp only [R.bind_ok] at o1⊢;rw [List.append_assoc];exact o1
     |ex x=>rw [e10] at o1;exact o1
     |no=>rw [e10] at o1;exact o1
  ·have e:ds.length=i:=by omega
   refine thn (T.done X' rfl rfl rfl hc i [] s' σ' H' _ I' (cu rfl fn') tni (i2 e)) fun r s1 ⟨hr,I1⟩=> ?_;subst hr;rw [List.drop_eq_nil_of_le (by omega)] at o';have o1:c_1 m fi fg p f δ= .ok (.ow (.lst (rs ++ []))):=o';rw [List.append_nil] at o1;obtain⟨mm,hnm,_⟩:=I1.loc;have eg:Inv X zc σ H' s1:=I3.call' (s':=s1) (ch:=fp) I1.os I1.base I1.hok I1.bare fun b hb=>by
    obtain⟨f0,f1',f2',f3,f4,f5⟩:=f2 b hb;exact⟨f3,f1',f4,f5⟩
   exact hRR Da C s1 G2 H2 G' H' vs rs o1 eg ⟨mm,hnm⟩ (I3.fpOk (by show hp3.objs.size≤C;omega) I1.free) hz2 st hfD hD gD rl
 exact codeAny_compStart_list (loop _ I4 stn) (T.self X.A 0 _ _ _ stn (loop _ I4 stn))
theorem ay_0{elt iter tg:Expr}{ifs:List Expr}{scope:Scope}{N':List Str}{fi:FI}{fg:FGc}{p:FT}{f:FE}{m:Nat}(hx0:∀e s,¬X.xe e s)(hc:X.calm=true)(hi:ID X q_8 tg iter fi)(hk:scope.kind= .function)(hb:ar_0 scope.names X.env.scope.names X.N N'=true)
  (hm:N'.length=X.N.length + m)
  (hin:∀C s0 H0 fp pn,GC (j_6 X scope (p_7 X.env.cells scope.names []) N' C s0 H0 fp pn) q_8 tg fg∧CTs (j_6 X scope (p_7 X.env.cells scope.names []) N' C s0 H0 fp pn) q_8 ifs p∧ED (j_6 X scope (p_7 X.env.cells scope.names []) N' C s0 H0 fp pn) q_8 elt f)
  {zc:List (Addr×Obj)} {s:Shared} {σ:Sg} {G H:Hp} {δ:DE} (I:Inv X zc σ H s) (g0:Same G H) (h0:HasS X.K G σ δ) {RR:Value→Addr→Result→Shared→Prop}
  (o:match c_1 m fi fg p f δ with| .ok _=>True| .ex x=>False| .no=>False)
  (hRR:∀(Da C:Addr) (s1:Shared) (G' H':Hp) (vs:List V) (rs:List D),c_1 m fi fg p f δ= .ok (.ow (.lst rs))→Inv X zc σ H' s1→(∃m,s1.heap.Ns C m)→FpOk X zc H' C→Step G H G' H'→H Da=none→H' Da=some (.lst vs)→G' Da=none→HasL X.K G' vs rs→RR (.ref Da) C (.ok .next) s1):
  wpAny (model X.prog X.w) X.A (eval iter X.env) (fun x s₁=>wpAny (model X.prog X.w) X.A (pyIter x) (fun it s₂=>wpAny (model X.prog X.w) X.A (newList []) (fun zm s₃=>
   wpAny (model X.prog X.w) X.A (newFunctionEnv scope X.env.globals (p_7 X.env.cells scope.names []) [] X.env.qual none .none (some X.env)) (fun cenv s₄=>
    codeAny (model X.prog X.w) X.A (.compStart (.ListComp elt [⟨tg,iter,ifs,0⟩] scope pos) 0 it zm {cenv with scope:=relabel scope X.env}) (RR zm cenv.locals) s₄) X.xe s₃) X.xe s₂) X.xe s₁) X.xe s:=by
 refine co_6 hx0 hc hk hb hm hin I (Z:=fun G2 H2=>Step G H G2 H2) (fun G2 H2 z=>⟨z.gh,h0.mono z.gg⟩) ?_ o fun Da C s1 G2 H2 G' H' vs rs e Io hm' fc z st h1 h2 h3 rl=>hRR Da C s1 G' H' vs rs e Io hm' fc (z.trans st) (z.hh.free h1) h2 h3 rl;refine wpAny_mono (hi zc s σ H (fun J H2=>∃ds G2,fi δ= .ok ds∧Step G H G2 H2∧ItD X.K G2 J ds) I ⟨G,δ,g0,h0, ?_⟩) (fun xv s₁ h₁=>wpAny_mono h₁ (fun itv s₂ h₂=> ?_) fun _ _ e=>(hx0 _ _ e).elim) fun _ _ e=>(hx0 _ _ e).elim
 ·unfold c_1 at o;cases e:fi δ with
  |ok ds=>exact fun J G2 H2 st it=>⟨ds,G2,rfl,st,it⟩
  |ex x=>rw [e] at o;exact o
  |no=>rw [e] at o;exact o
 ·obtain⟨it,fp,tn,J,H2,rfl,I2,T,st2,f2,ds,G2,e2,stp,itd⟩:=h₂;exact⟨it,fp,tn,J,H2,ds,G2,rfl,I2,T,st2,f2,e2,stp,itd⟩
theorem cw_8{elt iter tg:Expr}{ifs:List Expr}{scope:Scope}{N':List Str}{fi:FI}{fg:FGc}{p:FT}{f:FE}{m:Nat}(hx0:∀e s,¬X.xe e s)(hc:X.calm=true)(hi:ID X q_8 tg iter fi)(hk:scope.kind= .function)(hb:ar_0 scope.names X.env.scope.names X.N N'=true)
  (hm:N'.length=X.N.length + m)
  (hin:∀C s0 H0 fp pn,GC (j_6 X scope (p_7 X.env.cells scope.names []) N' C s0 H0 fp pn) q_8 tg fg∧CTs (j_6 X scope (p_7 X.env.cells scope.names []) N' C s0 H0 fp pn) q_8 ifs p∧ED (j_6 X scope (p_7 X.env.cells scope.names []) N' C s0 H0 fp pn) q_8 elt f)
  (hs:∀x,foldedSetIterable iter X.env x=pure x:=by intro _;rfl):ED X q_8 (.ListComp elt [⟨tg,iter,ifs,0⟩] scope pos) (c_1 m fi fg p f):=by
 intro zc s σ H Q I q;obtain⟨G,δ,g0,h0,o⟩:=q;rw [eval_ListComp];have n:=ax_9 I.ok hk hb;refine wpAny_comprehension_free (use:=none) rfl hs n.clos n.kind n.names (ay_0 (RR:=fun zm C=>compPost (model X.prog X.w) X.A X.xe none (EP X zc σ Q) zm C) hx0 hc hi hk hb hm hin I g0 h0 ?_ fun Da C s1 G' H' vs rs e Io hm' fc st h1 h2 h3 rl=> ?_)
 ·cases e:c_1 m fi fg p f δ with
  |ok w=>trivial
  |ex x=>rw [e] at o;exact o
  |no=>rw [e] at o;exact o
 ·rw [e] at o;obtain⟨mm,hnm⟩:=hm';obtain⟨c0,c1,c2,c3,c4,c5⟩:=fc;exact⟨mm,hnm,fun h' sb=>⟨.ref Da,H',Io.turned (t':=s1.toks) (fun b ob hb e=>(sb.2 b hb).trans e) c0 c1 c3 c4 c5,rfl,o (.ref Da) (fun b=>b=Da) G' H' st (fun a e=>by subst e;exact⟨h1,h3,by rw [h2];simp⟩) (.list h2 rfl rl)⟩⟩
theorem k_7{elt iter tg:Expr}{ifs:List Expr}{scope:Scope}{N':List Str}{fi:FI}{fg:FGc}{p:FT}{f:FE}{m:Nat}(hc:X.calm=true)(hi:ID X.nox q_8 tg iter fi)(hk:scope.kind= .function)(hb:ar_0 scope.names X.env.scope.names X.N N'=true)
  (hm:N'.length=X.N.length + m)
  (hin:∀C s0 H0 fp pn,GC (j_6 X scope (p_7 X.env.cells scope.names []) N' C s0 H0 fp pn) q_8 tg fg∧CTs (j_6 X scope (p_7 X.env.cells scope.names []) N' C s0 H0 fp pn) q_8 ifs p∧ED (j_6 X scope (p_7 X.env.cells scope.names []) N' C s0 H0 fp pn) q_8 elt f)
  (hs:∀x,foldedSetIterable iter X.env x=pure x:=by intro _;rfl):ED X EX (.ListComp elt [⟨tg,iter,ifs,0⟩] scope pos) (c_1 m fi fg p f):=
 PE.imp (PE.nox (cw_8 (X:=X.nox) (fun _ _ z=>z) hc hi hk hb hm hin hs)) fun σ H Q ⟨G,δ,g0,h0,o⟩=>by
  refine⟨G,δ,g0,h0, ?_⟩;cases e:c_1 m fi fg p f δ with
  |ok w=>rw [e] at o;exact o
  |ex x=>exact(bu_6 e).elim
  |no=>rw [e] at o;exact o
theorem PS.nox{st:Stmt}{t:TS}(h:PS X.nox st t):PS X st t:=fun zc s σ H D I hw=>
 wpAny_mono (h zc s σ H D (I.wish _) hw) (fun _ _ q=>q.unwish) fun _ _ z=>False.elim z
theorem dh_4{i:Nat}{js:List Nat}{f:FE}(h:∀δ x,f δ≠ .ex x){Δ Δ':SE}{x:Xn}(e:sSet i js f Δ= .ex x Δ'):False:=by
 unfold sSet at e;have hp:∀Δ2,sPut i Δ2 (f (vsh Δ2))= .ex x Δ'→False:=fun Δ2 e2=>by
  unfold sPut at e2;cases q:f (vsh Δ2) with
  |ok w=>rw [q] at e2;cases w <;> cases e2
  |ex y=>exact h _ _ q
  |no=>rw [q] at e2;cases e2
 cases q:f (vsh Δ) with
 |ok w=>rw [q] at e;cases w <;> cases e
 |ex y=>exact h _ _ q
 |no=>
  rw [q] at e;cases q2:f (vall Δ) with
  |ok w=>
   simp only [q2] at e
   split at e
   ·cases e
   ·exact hp _ e
  |ex y=>exact h _ _ q2
  |no=>simp only [q2] at e;cases e
theorem cw_9(js:List Nat){elt iter tg:Expr}{ifs:List Expr}{scope:Scope}{N':List Str}{fi:FI}{fg:FGc}{p:FT}{f:FE}{m i:Nat}{y:Str}{py bj:Pos}(hx0:∀e s,¬X.xe e s)(hc:X.calm=true)(hi:ID X q_8 tg iter fi)(hk:scope.kind= .function)(hb:ar_0 scope.names X.env.scope.names X.N N'=true)
  (hm:N'.length=X.N.length + m)
  (hin:∀C s0 H0 fp pn,GC (j_6 X scope (p_7 X.env.cells scope.names []) N' C s0 H0 fp pn) q_8 tg fg∧CTs (j_6 X scope (p_7 X.env.cells scope.names []) N' C s0 H0 fp pn) q_8 ifs p∧ED (j_6 X scope (p_7 X.env.cells scope.names []) N' C s0 H0 fp pn) q_8 elt f)
  (hN:X.N.Nodup) (hy:X.N[i]? =some y:=by rfl) (hx:Loc X.env.scope y:=by first|exact Or.inl rfl|exact Or.inr rfl) (hf:X.fn y=true∨X.env.scope.names.lookup y=some .local:=by first|exact .inl rfl|exact .inr rfl|assumption)
  (hsw:swapsWith (.ListComp elt [⟨tg,iter,ifs,0⟩] scope pos) (some (.Name y py)) bj.line X.env=pure true:=by rfl)
  (hs:∀x,foldedSetIterable iter X.env x=pure x:=by intro _;rfl):SD X q_8 (.Assign [.Name y py] (.ListComp elt [⟨tg,iter,ifs,0⟩] scope pos) bj) (sSet i js (c_1 m fi fg p f)):=by
 intro zc s σ H D I q;have q2:=bu_4 q;obtain⟨G,δ,g0,h0,o⟩:=q2;have n:=ax_9 I.ok hk hb;rw [exec_Assign_Name_used _ _ _ _ hsw];refine wpAny_bind (wpAny_standAt (wpAny_bind ?_));show wpAny _ X.A (do let _←comprehension (.ListComp elt [⟨tg,iter,ifs,0⟩] scope pos) scope X.env _ (newList []) false (eval iter X.env) (some (assign (.Name y py) X.env))) _ _ s;refine wpAny_bind (wpAny_mono (wpAny_comprehension_free (use:=some (assign (.Name y py) X.env)) (Q:=fun _ s'=>SP X zc D .next s') rfl hs n.clos n.kind n.names
  (ay_0 (RR:=fun zm C=>compPost (model X.prog X.w) X.A X.xe (some (assign (.Name y py) X.env)) (fun _ s'=>SP X zc D .next s') zm C) hx0 hc hi hk hb hm hin I g0 h0 ?_ fun Da C s1 G' H' vs rs e Io hm' fc st h1 h2 h3 rl=> ?_)) (fun _ s' hq=>wpAny_pure (wpAny_pure hq)) fun _ _ e=>e)
 ·cases e:c_1 m fi fg p f δ with
  |ok w=>trivial
  |ex x=>rw [e] at o;exact o
  |no=>rw [e] at o;exact o
 ·rw [e] at o;obtain⟨mm,hnm⟩:=hm';obtain⟨c0,c1,c2,c3,c4,c5⟩:=fc;show wpAny _ X.A (assign (.Name y py) X.env (.ref Da)) _ _ _;refine wpAny_assign_Name (bf_2 Io hN hy hx (v:= .ref Da) rfl (fun s2 I2 ⟨a,sb,ha⟩=> ?_) hf);have hCa:C≠a:=by
   rcases ha with rfl|ha
   ·exact c1
   ·exact fun z=>c4 y a ha z.symm
  refine⟨mm,hnm.sameBut sb hCa,fun h' sb'=>⟨_,H',I2.turned (t':=s2.toks) (fun b ob hb e=>(sb'.2 b hb).trans e) c0 c1 c3 c4 c5, ?_⟩⟩;exact o (.ref Da) (fun b=>b=Da) G' H' st (fun a e=>by subst e;exact⟨h1,h3,by rw [h2];simp⟩) (.list h2 rfl rl)
theorem bm_0(js:List Nat){elt iter tg:Expr}{ifs:List Expr}{scope:Scope}{N':List Str}{fi:FI}{fg:FGc}{p:FT}{f:FE}{m i:Nat}{y:Str}{py bj:Pos}(hc:X.calm=true)(hi:ID X.nox q_8 tg iter fi)(hk:scope.kind= .function)(hb:ar_0 scope.names X.env.scope.names X.N N'=true)
  (hm:N'.length=X.N.length + m)
  (hin:∀C s0 H0 fp pn,GC (j_6 X scope (p_7 X.env.cells scope.names []) N' C s0 H0 fp pn) q_8 tg fg∧CTs (j_6 X scope (p_7 X.env.cells scope.names []) N' C s0 H0 fp pn) q_8 ifs p∧ED (j_6 X scope (p_7 X.env.cells scope.names []) N' C s0 H0 fp pn) q_8 elt f)
  (hN:X.N.Nodup) (hy:X.N[i]? =some y:=by rfl) (hx:Loc X.env.scope y:=by first|exact Or.inl rfl|exact Or.inr rfl) (hf:X.fn y=true∨X.env.scope.names.lookup y=some .local:=by first|exact .inl rfl|exact .inr rfl|assumption)
  (hsw:swapsWith (.ListComp elt [⟨tg,iter,ifs,0⟩] scope pos) (some (.Name y py)) bj.line X.env=pure true:=by rfl)
  (hs:∀x,foldedSetIterable iter X.env x=pure x:=by intro _;rfl):SD X EX (.Assign [.Name y py] (.ListComp elt [⟨tg,iter,ifs,0⟩] scope pos) bj) (sSet i js (c_1 m fi fg p f)):=
 PS.imp (PS.nox (cw_9 (X:=X.nox) js (fun _ _ z=>z) hc hi hk hb hm hin hN hy hx hf hsw hs)) fun D σ H ⟨H0,G0,G,Δ,O,E,q⟩=>by
  refine⟨H0,G0,G,Δ,O,E, ?_⟩;cases e:sSet i js (c_1 m fi fg p f) Δ with
  |ex x Δ'=>exact(dh_4 (fun _ _ z=>bu_6 z) e).elim
  |_=>rw [e] at q;exact q
end
theorem ao_4:bootBuiltins "bool" =some (.type "bool"):=by decide +kernel
theorem m_0{k:Nat}{scope:Scope}{cl:List (Str×Addr)}{N':List Str}{C:Addr}{s0:Shared}{H0:Hp}{fp:List Addr}{pn:List (Addr×Obj)}{c:Bool}(h:RoomC c k (Cx.A X)):RoomC c k (Cx.A (j_6 X scope cl N' C s0 H0 fp pn)):=h
section
variable{X:Cx}{EX:EXS}{a b e:Expr}{es:List Expr}{f g:FE}{fa:FA}{pos p2:Pos}
abbrev FO:=DE→R (Option Int)
def tDo(K:Frag)(EX:EXS)(fo:FO):TO:=fun σ H Q=>∃G δ,Same G H∧HasS K G σ δ∧match fo δ with
 | .ok i=>∀G' H',Step G H G' H'→Q i H'
 | .ex x=>(EX σ).p x G H
 | .no=>False
abbrev OD(X:Cx)(EX:EXS)(e:Option Expr)(fo:FO):Prop:=PO X e (tDo X.K EX fo)
def oNone:FO:=fun _=> .ok none
def intPart:D→R (Option Int)
 | .int i=> .ok (some i)
 |_=> .no
def oSome(f:FE):FO:=fun δ=>(f δ).bind fun w=>intPart w.d
theorem PO.imp{e:Option Expr}{t t':TO}(h:PO X e t)(i:∀σ H Q,t' σ H Q→t σ H Q):PO X e t':=fun zc s σ H Q I q=>h zc s σ H Q I (i σ H Q q)
theorem dh_5:OD X EX none oNone:=PO.imp df_7 fun σ H Q ⟨G,δ,g,s,o⟩=>o G H (Step.refl g)
theorem bm_1(h:ED X EX e f):OD X EX (some e) (oSome f):=PO.imp (df_8 h) fun σ H Q ⟨G,δ,g,s,o⟩=>by
 refine⟨G,δ,g,s, ?_⟩;unfold oSome at o;cases e1:f δ with
 |ok w=>
  rw [e1] at o;simp only [R.bind_ok] at o;refine WP.intro fun v G' H' st r=> ?_;revert r o;cases w.d with
  |int i=>intro o r;cases r;exact⟨i,rfl,o G' H' st⟩
  |_=>intro o _;exact False.elim o
 |ex x=>rw [e1] at o;exact o
 |no=>rw [e1] at o;exact o
def cutL{α:Type}(xs:List α)(lo hi:Option Int):List α:=(xs.drop (HT.sIx xs.length 0 lo)).take (HT.sIx xs.length xs.length hi - HT.sIx xs.length 0 lo)
def bm_2:D→Option Int→Option Int→R W
 | .lst ds,lo,hi=> .ok (.ow (.lst (cutL ds lo hi)))
 | .str x,lo,hi=>if x.length≤16777216 then .ok (.sh (.str (Txt.slice x lo hi))) else .no
 |_,_,_=> .no
theorem ds_6:SlR X (fun x lo hi H Q=>∃z,x= .str z∧z.length≤sizeLine∧Q (.str (Txt.slice z lo hi)) H):=by
 intro zc s σ H x v vl vu lo hi sl Q I rx hs pl pu h;obtain⟨z,rfl,hz,q⟩:=h;obtain⟨t,rfl⟩:=rx;refine⟨"str",_,PySem.F.slot_str_getitem.lookup,typeIs_str _ _ _, ?_⟩;obtain⟨o,ho,hc,hd⟩:=hs;have fin:∀t' k,EP X zc σ Q (.str (Txt.slice z lo hi) t') {s with toks:=k}:=fun t' k=>⟨.str _,H,I.tok _,⟨_,rfl⟩,q⟩;cases pl with
 |none=>
  cases pu with
  |none=>exact wpAny_getItem_str_slice (l:=none) (u:=none) (st:=none) ⟨o,ho,hc,hd⟩ rfl (post_val_or_str ⟨Nat.le_trans (Txt.slice_le z _ _) hz,fin⟩)
  |int j uj=>exact wpAny_getItem_str_slice (l:=none) (u:=some (j,uj)) (st:=none) ⟨o,ho,hc,hd⟩ rfl (post_val_or_str ⟨Nat.le_trans (Txt.slice_le z _ _) hz,fin⟩)
 |int i ui=>
  cases pu with
  |none=>exact wpAny_getItem_str_slice (l:=some (i,ui)) (u:=none) (st:=none) ⟨o,ho,hc,hd⟩ rfl (post_val_or_str ⟨Nat.le_trans (Txt.slice_le z _ _) hz,fin⟩)
  |int j uj=>exact wpAny_getItem_str_slice (l:=some (i,ui)) (u:=some (j,uj)) (st:=none) ⟨o,ho,hc,hd⟩ rfl (post_val_or_str ⟨Nat.le_trans (Txt.slice_le z _ _) hz,fin⟩)
def rSlD(K:Frag):V→Option Int→Option Int→Hp→VK→Prop:=fun x lo hi H Q=>∃(EX:EXT) (G:Hp) (d:D),Same G H∧Has K G x d∧Out K EX G H (bm_2 d lo hi) Q
theorem sl_d:SlR X (rSlD X.K):=by
 intro zc s σ H x v vl vu lo hi sl Q I rx hs pl pu h;obtain⟨EX,G,d,g,r,o⟩:=h;cases r with
 |lst h r=>
  rename_i vs ds;refine dg_0 zc s σ H _ v vl vu lo hi sl Q I rx hs pl pu ⟨_,_,rfl,g.seq h,fun p hp=> ?_⟩;have de:HasL X.K G (cutV vs lo hi) (cutL ds lo hi):=by
   unfold cutV cutL;rw [r.length];exact(r.drop _).take _
  exact w_7 o g de p hp
 |str z=>
  simp only [bm_2] at o
  split at o
  ·rename_i hz;exact ds_6 zc s σ H _ v vl vu lo hi sl Q I rx hs pl pu ⟨z,rfl,by rw [sizeLine_eq];exact hz,d_7 o g (.str _)⟩
  ·exact o.elim
 |_=>exact False.elim o
def eSlice(f:FE)(lo hi:FO):FE:=fun δ=>(f δ).bind fun w=>(lo δ).bind fun l=>(hi δ).bind fun u=>bm_2 w.d l u
theorem tDo.seq{G H:Hp}{σ:Sg}{δ:DE}{fo:FO}{k:Option Int→R W}{Q:VK}{P:Option Int→Hp→Prop}(g:Same G H)(s:HasS K G σ δ)(h:Out K (EX σ) G H ((fo δ).bind k) Q)
  (i:∀b G' H',fo δ= .ok b→Step G H G' H'→Out K (EX σ) G' H' (k b) Q→P b H'):tDo K EX fo σ H P:=by
 refine⟨G,δ,g,s, ?_⟩;cases e:fo δ with
 |ok w=>rw [e] at h;exact fun G' H' st=>i w G' H' e st (Out.mono st h)
 |ex x=>rw [e] at h;exact h
 |no=>rw [e] at h;exact h
theorem bv_0{lo hi:Option Expr}{fl fh:FO}(he:ED X EX e f)(hl:OD X EX lo fl)(hu:OD X EX hi fh):ED X EX (.Subscript e (.Slice lo hi none p2) pos) (eSlice f fl fh):=
 PE.imp (cu_2 sl_d he hl hu) fun σ H Q ⟨G,δ,g0,s0,o⟩=>tD.seq g0 s0 o fun w v G1 H1 _ st1 r1 o1=>tDo.seq st1.gh (s0.mono st1.gg) o1 fun l G2 H2 _ st2 o2=>
  tDo.seq st2.gh (s0.mono (st1.gg.trans st2.gg)) o2 fun u G3 H3 _ st3 o3=>⟨_,G3,w.d,st3.gh,r1.mono (st2.gg.trans st3.gg),o3⟩
def tyD(T:String):D→Bool
 | .str _=>T == "str"
 | .int _=>T == "int"
 | .lst _=>T == "list"
 |_=>false
theorem dy_6{G H:Hp}{T:String}{d:D}(g:Same G H)(r:Has K G v d)(h:tyD T d=true):tyV K T v H:=by
 cases r with
 |str x=>exact eq_of_beq h
 |int i=>exact eq_of_beq h
 |lst hq r=>exact .inl ⟨eq_of_beq h,_,g.seq hq⟩
 |_=>cases h
def rDm(K:Frag)(fn:D→List D→R W):V→List V→Hp→VK→Prop:=fun x vs H Q=>∃(EX:EXT) (G:Hp) (d:D) (ds:List D),Same G H∧Has K G x d∧HasL K G vs ds∧Out K EX G H (fn d ds) Q
abbrev MtD(X:Cx)(id:String)(fn:D→List D→R W):Prop:=MtR X id (rDm X.K fn)
def eMeth(T:String)(fn:D→List D→R W)(f:FE)(fa:FA):FE:=fun δ=>(f δ).bind fun w=>if tyD T w.d=true then(fa δ).bind fun ds=>fn w.d ds else .no
variable{o:Expr}{name:Str}{zf zd:Pos}{T id:String}{fn:D→List D→R W}
theorem bm_3(pa:PlainAttrs T)(slot:Slot T name id)(hty:typeOf (.builtin id)=pure (.type "method_descriptor"))(hm:MtD X id fn)(ho:ED X EX o f)(ha:AD X EX (e::es) fa)
  (ae:attributeBase o name X.env (eval o X.env)=eval o X.env:=by rfl)
  (ay:((backTo zd (starEach (e::es) X.env)).all (fun x=> !x.1) && (backToKw zd (keywordEach [] X.env)).all (fun x=>x.1.isSome)
   && decide ((e::es).length + ([]:List Keyword).length + (if([]:List Keyword).isEmpty then 0 else 1) < 30))=true:=by rfl)
  (af:(zf.endLine ==zd.line)=true:=by rfl) (hs:starEach (e::es) X.env=(false,eval e X.env)::starEach es X.env:=by rfl) (aa:(backTo zd (starEach es X.env)).any (·.1)=false:=by rfl):
  ED X EX (.Call (.Attribute o name zf) (e::es) [] zd) (eMeth T fn f fa):=
 PE.imp (cu_5 pa slot hty hm ho ha ae ay af hs aa) fun σ H Q ⟨G,δ,g0,s0,o⟩=>tD.seq g0 s0 o fun w v G1 H1 _ st1 r1 o1=>by
  split at o1
  ·rename_i ht;exact⟨dy_6 st1.gh r1 ht,tDa.seq st1.gh (s0.mono st1.gg) o1 fun ds vs G2 H2 _ st2 r2 o2=>⟨_,G2,w.d,ds,st2.gh,r1.mono st2.gg,r2,o2⟩⟩
  ·exact o1.elim
def eMeth0(T:String)(fn:D→List D→R W)(f:FE):FE:=fun δ=>(f δ).bind fun w=>if tyD T w.d=true then fn w.d [] else .no
theorem ci_6{G:Hp}{d:D}{ds:List D}(r:Has K G v d)(rl:HasL K G vs ds){P:Prop}(h:∀x y,v= .str x→d= .str x→vs= [.str y]→ds= [.str y]→P)(n:(∀x y,¬(d= .str x∧ds= [.str y]))→P):P:=by
 by_cases e:∃x y,d= .str x∧ds= [.str y]
 ·obtain⟨x,y,rfl,rfl⟩:=e;cases r;cases rl with
  |cons a t=>cases a;cases t;exact h x y rfl rfl rfl rfl
 ·exact n fun x y z=>e ⟨x,y,z⟩
def bv_1:D→List D→R W
 | .str x, [.str y]=> .ok (.sh (.int (Txt.find x y)))
 |_,_=> .no
theorem cx_0:MtD X "str.find" bv_1:=by
 intro zc s σ H x vs v us Q I rx rv h;obtain⟨EX,G,d,ds,g,r,rl,o⟩:=h;refine ci_6 r rl (fun x y e1 e2 e3 e4=> ?_) fun n=> ?_
 ·subst e1 e2 e3 e4;obtain⟨t,rfl⟩:=rx;obtain⟨u,rfl,t',rfl⟩:=rv.one;exact SC.find ⟨.int _,H,I.tok _,⟨_,rfl⟩,d_7 o g (.int _)⟩
 ·have e:bv_1 d ds= .no:=by
   unfold bv_1
   split
   ·rename_i x y;exact absurd ⟨rfl,rfl⟩ (n x y)
   ·rfl
  rw [e] at o;exact o.elim
def bh_0:List D→Option (List Str)
 | []=>some []
 | .str x::ds=>(bh_0 ds).map (x:: ·)
 |_=>none
theorem bv_2{G:Hp}:∀{vs:List V} {ds:List D} {us:List Value} {ys:List Str},HasL K G vs ds→Vals vs us→bh_0 ds=some ys→StrsAre us ys
 |_,_,_,_, .nil,r,e=>by cases r;cases e;exact .nil
 |_,_,_,_, .cons h t,r,e=>by
  cases r with
  |cons r1 r2=>
   cases h with
   |str x=>
    obtain⟨t',rfl⟩:=r1;simp only [bh_0] at e;obtain⟨zs,q,rfl⟩:=Option.map_eq_some_iff.mp e;exact .cons x t' (bv_2 t r2 q)
   |_=>cases e
def ar_1:D→List D→R W
 | .str x, [.lst ds]=>match bh_0 ds with
  |some ys=>if(ys.map (·.length)).sum + ys.length * x.length≤16777216 then .ok (.sh (.str (Txt.join x ys))) else .no
  |none=> .no
 |_,_=> .no
theorem cx_1:MtD X "str.join" ar_1:=by
 intro zc s σ H x vs v us Q I rx rv h;obtain⟨EX,G,d,ds,g,r,rl,o⟩:=h;cases r with
 |str x=>
  cases rl with
  |nil=>exact False.elim o
  |cons a t=>
   cases t with
   |cons _ _=>cases a <;> exact False.elim o
   |nil=>
    cases a with
    |lst h r=>
     obtain⟨t,rfl⟩:=rx;obtain⟨u,rfl,ru⟩:=rv.one;cases ru;simp only [ar_1] at o
     split at o
     ·rename_i ys e
      split at o
      ·rename_i hz;obtain⟨its,rv',pl,_⟩:=I.list (g.seq h);exact join_list pl.isList (by simpa using bv_2 r rv' e) hz fun t' k=>⟨.str _,H,I.tok _,⟨_,rfl⟩,d_7 o g (.str _)⟩
      ·exact o.elim
     ·exact o.elim
    |_=>exact False.elim o
 |_=>cases rl <;> exact False.elim o
def isT(T:String):D→Option Bool
 | .non=>some false
 | .bl _=>some (T == "bool" || T == "int")
 | .int _=>some (T == "int")
 | .str _=>some (T == "str")
 | .lst _=>some (T == "list")
 | .tup _=>some (T == "tuple")
 |_=>none
def eIs(T:String)(f:FE):FE:=fun δ=>(f δ).bind fun w=>match isT T w.d with
 |some k=> .ok (.sh (.bl k))
 |none=> .no
structure KitT(K:Frag)(T:String):Prop where
 non:kitOne K (.type "NoneType") (.type T)=some false
 bl:kitOne K (.type "bool") (.type T)=some (T == "bool" || T == "int")
 int:kitOne K (.type "int") (.type T)=some (T == "int")
 str:kitOne K (.type "str") (.type T)=some (T == "str")
 lst:kitOne K (.type "list") (.type T)=some (T == "list")
 tup:kitOne K (.type "tuple") (.type T)=some (T == "tuple")
theorem cx_2{T:String}(k:KitT X.K T):ab_2 X (.builtin "isinstance") (fun xs H Q=>∃G x d b,xs= [x, .ty T]∧Same G H∧Has X.K G x d∧isT T d=some b∧Q (.bl b) H):=by
 intro zc s σ H xs us Q I rv h;obtain⟨G,x,d,b,rfl,g,r,e,q⟩:=h;obtain⟨u,u2,rfl,r1,r2⟩:=rv.two;cases r2;have fin:∀tk,EP X zc σ Q (.bool b) {s with toks:=tk}:=fun tk=>⟨.bl b,H,I.tok _,rfl,q⟩;cases r with
 |non=>cases r1;exact kia_one kitx_none I.kIn True.intro (k.non.trans e) (fun z=>nomatch z) fin
 |bl y=>cases r1;exact kia_one kitx_bool I.kIn True.intro (k.bl.trans e) (fun z=>nomatch z) fin
 |int i=>obtain⟨t,rfl⟩:=r1;exact kia_one kitx_int I.kIn True.intro (k.int.trans e) (fun z=>nomatch z) fin
 |str y=>obtain⟨t,rfl⟩:=r1;exact kia_one kitx_str I.kIn True.intro (k.str.trans e) (fun z=>nomatch z) fin
 |lst h r=>
  cases r1;obtain⟨its,_,⟨ob,n,e1,c,_,_⟩,_⟩:=I.list (g.seq h);exact kia_one kitx_list I.kIn ⟨ob,e1,c⟩ (k.lst.trans e) (fun z=>nomatch z) fin
 |tup h r=>
  cases r1;obtain⟨its,_,⟨ob,e1,c,_⟩,_⟩:=I.tuple (Same.tupS g h);exact kia_one kitx_tuple I.kIn ⟨ob,e1,c⟩ (k.tup.trans e) (fun z=>nomatch z) fin
 |exn0 _ _=>cases e
 |exn1 _ _ _ _ _=>cases e
 |dic _ _ _=>cases e
 |obj _ _ _ _=>cases e
theorem ac_5{Tn:Str}{T:String}{pp p3:Pos}(k:KitT X.K T)(ha:ED X EX a f)(hm:X.mg "isinstance" =none)(hmT:X.mg Tn=none)(hvT:bootBuiltins Tn=some (.type T))(hg:Gl X "isinstance" :=by rfl)(hgT:Gl X Tn:=by rfl)
  (hn:Tn≠ "__name__" :=by decide) (hdT:(Tn ==("__debug__" :Str))=false:=by decide)
  (he:starEach [a, .Name Tn p3] X.env=(false,eval a X.env)::starEach [.Name Tn p3] X.env:=by rfl) (hpl:(backTo pos (starEach [.Name Tn p3] X.env)).any (·.1)=false:=by rfl)
  (hs:starEach [.Name Tn p3] X.env=(false,eval (.Name Tn p3) X.env)::starEach [] X.env:=by rfl):ED X EX (.Call (.Name "isinstance" pp) [a, .Name Tn p3] [] pos) (eIs T f):=
 PE.imp (ax_2 (cx_2 k) hg hm boot_isinstance (k_6 ha (k_6 (de_5 (v:= .ty T) hgT hmT hvT rfl hn hdT) x_6 hs) he) (by decide) (by decide) he hpl) fun σ H Q ⟨G,δ,g0,s0,o⟩=>tD.seq g0 s0 o fun w v G1 H1 _ st1 r1 o1=>by
  split at o1
  ·rename_i b e;exact⟨G1,v,w.d,b,rfl,st1.gh,r1,e,d_7 o1 st1.gh (.bl b)⟩
  ·exact o1.elim
end
def ay_1(K:Frag):Sp:=fun vs H Q _=>∃(a:Addr) (ns:List Int),vs= [.ref a]∧SqL K H a (ns.map V.int)∧ns.length≤63∧∀H',Q (.bl true) H'
theorem ci_7{G:Hp}:∀ns:List Int,HasL K G (ns.map V.int) (ns.map D.int)
 | []=> .nil
 |n::ns=> .cons (.int n) (ci_7 ns)
theorem ds_7{w:World}{k:Nat}{f:Addr}{x:Str}{F:List D→R W}(h:FnX P w K mg base true k f fd [x] (spX K 1 F))
  (hF:∀ns:List Int,ns.length≤63→∃v,F [.lst (ns.map D.int)]= .ok v∧v.d= .bl true):FnOk P w K mg base CX0 k f fd [x] (ay_1 K):=by
 have hs:∀vs H Q E,ay_1 K vs H Q E→spX K 1 F vs H Q fun _ _ _=>False:=fun vs H Q E q=>by
  obtain⟨a,ns,rfl,hS,hl,q⟩:=q;obtain⟨v,e,ev⟩:=hF ns hl;refine⟨rfl,H, [.lst (ns.map D.int)],Same.refl _, .cons (.lst hS (ci_7 ns)) .nil, ?_⟩;rw [e];refine WP.intro fun u G' H' st r=> ?_;rw [ev] at r;cases r;exact q H'
 refine⟨fun vs H Q E q=>(hs vs H Q E q).1,fun A outer s H args us vs Q E hr e0 hb hv q=>codeAny_mono (h.run A outer s H args us vs Q _ (RoomC.of hr) e0 hb hv (hs vs H Q E q)) fun r s' hq=> ?_⟩;cases r with
 |error e=>
  obtain⟨a,C,dx,T,H',_,_,_,_,_,_,_,_,_,_,z⟩:=hq;exact z
 |ok fl=>cases fl <;> exact hq
theorem dy_7{l:PySem.W.OpenLaw}{q:Program}{loose:List Str}{XP:(Str→Option Value)→Heap→Prop}{YP:World→Heap→Prop}{d:DefRec}{K:Params→Frag}{x:Str}{k:Nat}(hn:l.most=some 63)(hdf:d.params.defaults= [])(hr:Room k callerA)
  (hY:∀(w:World) (h:Heap),YP w h→(K w.params).In h)
  (F:∀(w:World) (mg:Str→Option Value) (fa:Addr) (h:Heap),(K w.params).In h→h.Ns mainGlobals mg→mg d.name=some (.ref fa)→
   ∃fd:FuncData,(∀(s:Shared) (u:Value),BindsTo s fd ⟨[u], []⟩ [(x,u)])∧∀base:Heap,(K w.params).In base→base.Ns mainGlobals mg→FnOk l.prog w (K w.params) mg base CX0 k fa fd [x] (ay_1 (K w.params))):
  PySem.W.WalkO q loose XP YP l.row.toRowW d [] (fun f vs=>PySem.call f vs):=
 dg_2 (n:=63) (k:=k) (x:=x) (CX:=fun _=>CX0) (sp:=fun w=>ay_1 (K w.params)) hn (by decide) hdf hr hY F (fun _ _ a ns hl _ hS=>⟨a,ns,rfl,hS,hl,fun _=>rfl⟩) fun _ _ _ _ _ z=>z
theorem Inv.pair{zc:List (Addr×Obj)}{σ:Sg}{s:Shared}{e it:Addr}{h':Heap}{tk:Nat}{its:List Value}(I:Inv X zc σ H s)(fe:FpOk X zc H e)(fi:FpOk X zc H it)
  (k:∀b o,b≠e→b≠it→s.heap.get? b=some o→h'.get? b=some o) (he:∃o,h'.get? e=some o) (hi:∃o,h'.get? it=some o) (ht:h'.get? s.heap.objs.size=some {cls:= .type "tuple",data:= .seq its.toArray}) (rv:Vals vs its) (hz:vs.length≤sizeLine):
  Inv X zc σ (upd H s.heap.objs.size (.tup vs)) {s with heap:=h',toks:=tk}:=by
 have hn:H s.heap.objs.size=none:=I.hok.fresh (Nat.le_refl _);obtain⟨e0,e1,e2,e3,e4,e5⟩:=fe;obtain⟨i0,i1,i2,i3,i4,i5⟩:=fi;have neH:∀b u,H b=some u→b≠e∧b≠it:=fun b u q=>⟨fun z=>(by rw [z,e0] at q;cases q),fun z=>(by rw [z,i0] at q;cases q)⟩;have lt:∀b o,s.heap.get? b=some o→b≠s.heap.objs.size:=fun b o q=>Nat.ne_of_lt (Heap.lt_size q);refine I.step (g':=s.gens) (d':=s.drawn) (ch:= [e,it]) (fun b hb=> ?_) (fun b o _ _ hc q _=>k b o (fun z=>hc (by simp [z])) (fun z=>hc (by simp [z])) q)
  (fun b o _ _ hc q _=>⟨o.slots,k b o (fun z=>hc (by simp [z])) (fun z=>hc (by simp [z])) q⟩) (fun b o _ q n=>by rw [b_0 (lt b o q)];exact n) (fun b o hc q=>⟨o,k b o (fun z=>hc (by simp [z])) (fun z=>hc (by simp [z])) q⟩)
  (fun b xs q=>by rw [b_0 (d_5 q hn)];exact q) (fun b o u q=>by rw [b_0 (d_5 q hn)];exact q) (fun b ps q=>⟨#[],by rw [b_0 (d_5 q hn),q];simp⟩) (fun m hm=> ?_) (fun b u q=> ?_) I.bare
 ·have hb':b=e∨b=it:=by simpa using hb
  rcases hb' with rfl|rfl
  ·exact⟨e3,e1,e4,e5⟩
  ·exact⟨i3,i1,i4,i5⟩
 ·obtain⟨o,es,ep,ho,r⟩:=hm;exact⟨o,es,ep,k _ o (Ne.symm e1) (Ne.symm i1) ho,r⟩
 ·by_cases z:b=s.heap.objs.size
  ·subst z;rw [b_3] at q;cases q;exact⟨hz,its,rv,⟨_,ht,rfl,0,rfl⟩⟩
  ·rw [b_0 z] at q;refine(I.hok b u q).stay (fun c v hc r=> ?_) (fun c r=>by rw [b_0 (d_5 r hn)];exact r) fun c xs r=>by rw [b_0 (d_5 r hn)];exact r
   rcases hc with rfl|hc
   ·exact k c v (neH c u q).1 (neH c u q).2 r
   ·exact k c v (neH c _ hc).1 (neH c _ hc).2 r
theorem Inv.turned2{zc:List (Addr×Obj)}{σ:Sg}{s:Shared}{e it:Addr}{h':Heap}{tk:Nat}(I:Inv X zc σ H s)(fe:FpOk X zc H e)(fi:FpOk X zc H it)
  (k:∀b o,b≠e→b≠it→s.heap.get? b=some o→h'.get? b=some o):Inv X zc σ H {s with heap:=h',toks:=tk}:=by
 obtain⟨e0,e1,e2,e3,e4,e5⟩:=fe;obtain⟨i0,i1,i2,i3,i4,i5⟩:=fi;have neH:∀b u,H b=some u→b≠e∧b≠it:=fun b u q=>⟨fun z=>(by rw [z,e0] at q;cases q),fun z=>(by rw [z,i0] at q;cases q)⟩;refine I.step (g':=s.gens) (d':=s.drawn) (ch:= [e,it]) (fun b hb=> ?_) (fun b o _ _ hc q _=>k b o (fun z=>hc (by simp [z])) (fun z=>hc (by simp [z])) q)
  (fun b o _ _ hc q _=>⟨o.slots,k b o (fun z=>hc (by simp [z])) (fun z=>hc (by simp [z])) q⟩) (fun b o _ q n=>n) (fun b o hc q=>⟨o,k b o (fun z=>hc (by simp [z])) (fun z=>hc (by simp [z])) q⟩)
  (fun b xs q=>q) (fun b o u q=>q) (fun b ps q=>⟨#[],by rw [q];simp⟩) (fun m hm=> ?_) (fun b u q=> ?_) I.bare
 ·have hb':b=e∨b=it:=by simpa using hb
  rcases hb' with rfl|rfl
  ·exact⟨e3,e1,e4,e5⟩
  ·exact⟨i3,i1,i4,i5⟩
 ·obtain⟨o,es,ep,ho,r⟩:=hm;exact⟨o,es,ep,k _ o (Ne.symm e1) (Ne.symm i1) ho,r⟩
 ·refine(I.hok b u q).stay (fun c v hc r=> ?_) (fun c r=>r) fun c xs r=>r;rcases hc with rfl|hc
  ·exact k c v (neH c u q).1 (neH c u q).2 r
  ·exact k c v (neH c _ hc).1 (neH c _ hc).2 r
def enL(K:Frag)(l:Addr):It:=
 ⟨fun i H=>∃xs x,SqL K H l xs∧xs[i]? =some x,fun i H v H'=>∃p,H p=none∧v= .ref p∧∀xs x,SqL K H l xs→xs[i]? =some x→H'=upd H p (.tup [.int (i:Int),x]),fun i H=>∃xs,SqL K H l xs∧xs.length=i⟩
def enS(z:Str):It:=
 ⟨fun i _=>i < z.cps.size,fun i H v H'=>∃p c,H p=none∧v= .ref p∧z.cps[i]? =some c∧H'=upd H p (.tup [.int (i:Int), .str ⟨#[c]⟩]),fun i _=>i=z.cps.size⟩
theorem cx_3{w:World}{elts:List Expr}{x1:Nat}(e it l:Addr)(hei:e≠it):Turn P w K (.Tuple elts x1 pos) (enL K l) [e,it] e (fun i h=>(∃old,IsEnum h e it (i:Int) old)∧h.IsListIter it l i) where
 mem:=by simp
 obj:=fun i h st b hb=>by
  have hb':b=e∨b=it:=by simpa using hb
  rcases hb' with rfl|rfl
  ·obtain⟨⟨old,q⟩,_⟩:=st;exact⟨_,q,fun v z=>by cases z⟩
  ·obtain⟨_,⟨o,q,c,d⟩⟩:=st;exact⟨o,q,fun v z=>by rw [d] at z;cases z⟩
 keep:=fun i h h' st k=>by
  obtain⟨⟨old,q⟩,r⟩:=st;exact⟨⟨old,k e (by simp) _ q⟩,r.at fun o z=>k it (by simp) o z⟩
 item:=by
  intro X hP hw hK hc i zc s σ H E I hf st hg;subst hP hw hK;obtain⟨xs,x,hq,hx⟩:=hg;obtain⟨its,rv,p,hz⟩:=I.list hq;obtain⟨u,hu,ru⟩:=rv.get hx;obtain⟨⟨old,he⟩,hit⟩:=st;have fe:=hf e (by simp);have fi:=hf it (by simp);have pl:=p.isList;have nle:l≠e:=fun z=>by
   subst z;obtain⟨o,ho,hc',_⟩:=pl;rw [show s.heap.get? l=_ from he] at ho;cases ho;exact absurd hc' (by simp)
  have nli:l≠it:=fun z=>by
   subst z;obtain⟨o,ho,hc',_⟩:=pl;obtain⟨o',ho',hc2,_⟩:=hit;rw [ho] at ho';cases ho';rw [hc'] at hc2;exact absurd hc2 (by simp)
  have hlt:i < its.toArray.size:=by
   have:=(List.getElem?_eq_some_iff.mp hu).1;simpa using this
  refine wpAny_pyNext_enum_itemD (Draws.list (A:=X.A.in1) (I.ok.hd hc) it l nli its.toArray) he ⟨hit,pl⟩ hlt hei (by simp [hei,Ne.symm nle]) fun y h' tk hy ho hst cg hsz kk=> ?_;have ey:y=u:=by
   have:its.toArray[i]? =some u:=by simpa using hu
   rw [this] at hy;exact(Option.some.inj hy).symm
  subst ey;refine⟨_,rfl,wpAny_letOwnedTupleGo_enum ho fun h'' bf sb=> ?_⟩;have aw:∃old,IsEnum h'' e it ((i + 1:Nat):Int) old:=⟨_,by
   have e1:((i + 1:Nat):Int)=(i:Int) + 1:=by omega
   rw [e1];exact bf⟩
  refine⟨.ref s.heap.objs.size,upd H s.heap.objs.size (.tup [.int (i:Int),x]), ?_,rfl,⟨_,I.hok.fresh (Nat.le_refl _),rfl,fun ys y' hy' ey'=> ?_⟩,⟨aw, ?_⟩,fun b hb=> ?_⟩
  ·have ne:s.heap.objs.size≠e:=fun z=>absurd (Heap.lt_size he) (by rw [←z];exact Nat.lt_irrefl _);refine Inv.pair (its:= [.int (i:Int) tk,y]) I fe fi (fun b o h1 h2 q=>(sb.2 b h1).trans (kk b o h1 h2 q)) ⟨_,bf⟩ ?_ ((sb.2 _ ne).trans cg) (.cons ⟨_,rfl⟩ (.cons ru .nil)) (by show 2≤sizeLine;decide);obtain⟨⟨o,q,_⟩,_⟩:=hst;exact⟨o,(sb.2 it (Ne.symm hei)).trans q⟩
  ·have:=I.list_inj hy' hq;subst this;rw [hx] at ey';cases ey';rfl
  ·exact hst.1.at fun o z=>(sb.2 it (Ne.symm hei)).trans z
  ·have hb':b=e∨b=it:=by simpa using hb
   have hbl:b < s.heap.objs.size:=by
    rcases hb' with rfl|rfl
    ·exact Heap.lt_size he
    ·obtain⟨o,q,_⟩:=hit;exact Heap.lt_size q
   rw [b_0 (Nat.ne_of_lt hbl)];exact(hf b hb).1
 done:=by
  intro X hP hw hK hc i zc s σ H E I hf st hg;subst hP hw hK;obtain⟨xs,hq,hx⟩:=hg;obtain⟨its,rv,p,hz⟩:=I.list hq;obtain⟨⟨old,he⟩,hit⟩:=st;have hl:=rv.length;have pl:=p.isList;have nli:l≠it:=fun z=>by
   subst z;obtain⟨o,ho,hc',_⟩:=pl;obtain⟨o',ho',hc2,_⟩:=hit;rw [ho] at ho';cases ho';rw [hc'] at hc2;exact absurd hc2 (by simp)
  have en:i=its.toArray.size:=by simp;omega
  refine wpAny_pyNext_enum_endD (Draws.list (A:=X.A.in1) (I.ok.hd hc) it l nli its.toArray) he (by rw [←en];exact⟨hit,pl⟩) fun h' eb=>⟨rfl, ?_⟩;exact Inv.turned2 (tk:=s.toks) I (hf e (by simp)) (hf it (by simp)) fun b o h1 h2 q=>eb b o h2 q
 self:=fun A i s Q E st h=>by
  obtain⟨⟨old,he⟩,_⟩:=st;exact wpAny_pyIter_enum he h
theorem bh_1{prog:Program}{w:World}{A:Around}(hh:A.handled=none)(it:Addr)(x:Str)(t:Tok):
  Draws prog w A it [it] x.cps.size (fun i v=>∃c u,x.cps[i]? =some c∧v= .str ⟨#[c]⟩ u) (fun i h=>h.IsStrIter it (strIterType x) x t i):=by
 unfold strIterType;cases ha:x.cps.all (· < 128)
 ·exact Draws.strWide hh it x t
 ·exact Draws.strAscii hh it x t
theorem cx_4{w:World}{elts:List Expr}{x1:Nat}(e it:Addr)(z:Str)(t:Tok)(hei:e≠it):Turn P w K (.Tuple elts x1 pos) (enS z) [e,it] e (fun i h=>(∃old,IsEnum h e it (i:Int) old)∧h.IsStrIter it (strIterType z) z t i) where
 mem:=by simp
 obj:=fun i h st b hb=>by
  have hb':b=e∨b=it:=by simpa using hb
  rcases hb' with rfl|rfl
  ·obtain⟨⟨old,q⟩,_⟩:=st;exact⟨_,q,fun v z=>by cases z⟩
  ·obtain⟨_,⟨o,q,c,d⟩⟩:=st;exact⟨o,q,fun v z=>by rw [d] at z;cases z⟩
 keep:=fun i h h' st k=>by
  obtain⟨⟨old,q⟩,⟨o,r,c⟩⟩:=st;exact⟨⟨old,k e (by simp) _ q⟩,⟨o,k it (by simp) o r,c⟩⟩
 item:=by
  intro X hP hw hK hc i zc s σ H E I hf st hg;subst hP hw hK;obtain⟨⟨old,he⟩,hit⟩:=st;have fe:=hf e (by simp);have fi:=hf it (by simp);refine wpAny_pyNext_enum_itemD (bh_1 (A:=X.A.in1) (I.ok.hd hc) it z t) he hit hg hei (by simp [hei]) fun y h' tk hy ho hst cg hsz kk=> ?_;obtain⟨c,uc,hcx,rfl⟩:=hy;refine⟨_,rfl,wpAny_letOwnedTupleGo_enum ho fun h'' bf sb=> ?_⟩;have aw:∃old,IsEnum h'' e it ((i + 1:Nat):Int) old:=⟨_,by
   have e1:((i + 1:Nat):Int)=(i:Int) + 1:=by omega
   rw [e1];exact bf⟩
  refine⟨.ref s.heap.objs.size,upd H s.heap.objs.size (.tup [.int (i:Int), .str ⟨#[c]⟩]), ?_,rfl,⟨_,c,I.hok.fresh (Nat.le_refl _),rfl,hcx,rfl⟩,⟨aw, ?_⟩,fun b hb=> ?_⟩
  ·have ne:s.heap.objs.size≠e:=fun z=>absurd (Heap.lt_size he) (by rw [←z];exact Nat.lt_irrefl _);refine Inv.pair (its:= [.int (i:Int) tk, .str ⟨#[c]⟩ uc]) I fe fi (fun b o h1 h2 q=>(sb.2 b h1).trans (kk b o h1 h2 q)) ⟨_,bf⟩ ?_ ((sb.2 _ ne).trans cg) (.cons ⟨_,rfl⟩ (.cons ⟨_,rfl⟩ .nil)) (by show 2≤sizeLine;decide);obtain⟨o,q,_⟩:=hst;exact⟨o,(sb.2 it (Ne.symm hei)).trans q⟩
  ·obtain⟨o,q,r⟩:=hst;exact⟨o,(sb.2 it (Ne.symm hei)).trans q,r⟩
  ·have hb':b=e∨b=it:=by simpa using hb
   have hbl:b < s.heap.objs.size:=by
    rcases hb' with rfl|rfl
    ·exact Heap.lt_size he
    ·obtain⟨o,q,_⟩:=hit;exact Heap.lt_size q
   rw [b_0 (Nat.ne_of_lt hbl)];exact(hf b hb).1
 done:=by
  intro X hP hw hK hc i zc s σ H E I hf st hg;subst hP hw hK;obtain⟨⟨old,he⟩,hit⟩:=st;have en:i=z.cps.size:=hg;refine wpAny_pyNext_enum_endD (bh_1 (A:=X.A.in1) (I.ok.hd hc) it z t) he (by rw [←en];exact hit) fun h' eb=>⟨rfl, ?_⟩;exact Inv.turned2 (tk:=s.toks) I (hf e (by simp)) (hf it (by simp)) fun b o h1 h2 q=>eb b o h2 q
 self:=fun A i s Q E st h=>by
  obtain⟨⟨old,he⟩,_⟩:=st;exact wpAny_pyIter_enum he h
def n_1(k:Nat):List D→List D
 | []=> []
 |d::ds=> .tup [.int (k:Int),d]::n_1 (k + 1) ds
theorem n_8:∀{ds:List D} {k i:Nat} {d:D},(n_1 k ds)[i]? =some d→∃d',ds[i]? =some d'∧d= .tup [.int ((k + i:Nat):Int),d']
 | [],_,_,_,h=>by simp [n_1] at h
 |x::ds,k,0,d,h=>by simp [n_1] at h;exact⟨x,rfl,h.symm⟩
 |x::ds,k,i + 1,d,h=>by
  obtain⟨d',e1,e2⟩:=n_8 (ds:=ds) (k:=k + 1) (i:=i) (by simpa [n_1] using h);exact⟨d',by simpa using e1,by rw [e2,show k + 1 + i=k + (i + 1) by omega]⟩
theorem ao_5:∀(ds:List D) (k:Nat),(n_1 k ds).length=ds.length
 | [],_=>rfl
 |_::ds,k=>by simp [n_1,ao_5 ds (k + 1)]
def ao_6:D→R (List D)
 | .lst ds=> .ok (n_1 0 ds)
 | .str x=> .ok (n_1 0 (q_3 x))
 |_=> .no
def s_3(f:FE):FI:=fun δ=>(f δ).bind fun w=>ao_6 w.d
section
variable{X:Cx}{EX:EXS}{a:Expr}{f:FE}{elts:List Expr}{x1:Nat}{tp p pos:Pos}
def iEn(K:Frag)(t:TA):TI:=fun σ H Q=>t σ H fun vs H1=>(∃l,vs= [.ref l]∧(∃xs,SqL K H1 l xs)∧Q (enL K l) H1)∨(∃z,vs= [.str z]∧Q (enS z) H1)
theorem dh_6{ta:TA}(hg:Gl X "enumerate")(hm:X.mg "enumerate" =none)(ha:PA X [a] ta)(hs:starEach [a] X.env= [(false,eval a X.env)]:=by rfl):PI X (.Tuple elts x1 tp) (.Call (.Name "enumerate" p) [a] [] pos) (iEn X.K ta):=by
 intro zc s σ H Q I h;refine Call_ (z_7 I hg hm PyProof.Rows.boot_enumerate (PyProof.Rows.callWith_type1 (thn (ha pos zc s σ H _ I h) fun us s1 ⟨vs,H1,I1,r1,q1⟩=> ?_) hs rfl));rcases q1 with⟨l,rfl,⟨xs,hq⟩,q⟩|⟨z,rfl,q⟩
 ·obtain⟨u,rfl,ru⟩:=r1.one;cases ru;obtain⟨its,rv,pl,hz⟩:=I1.list hq;refine call_enumerate_list pl.isList fun h' he hit hsz kk=>wpAny_pyIter_enum he ?_;refine⟨s1.heap.objs.size + 1, [s1.heap.objs.size + 1,s1.heap.objs.size],_,enL X.K l,H1,rfl,I1.kept (t':=s1.toks) kk,cx_3 _ _ l (Nat.succ_ne_self _),⟨⟨_,he⟩,hit⟩,fun b hb=> ?_,q⟩;have hb':b=s1.heap.objs.size + 1∨b=s1.heap.objs.size:=by simpa using hb
  have hbl:s1.heap.objs.size≤b:=by
   rcases hb' with rfl|rfl
   ·exact Nat.le_succ _
   ·exact Nat.le_refl _
  exact I1.fpOk hbl (I1.hok.fresh hbl)
 ·obtain⟨u,rfl,t,rfl⟩:=r1.one;refine call_enumerate_str fun h' he hit hsz kk=>wpAny_pyIter_enum he ?_;refine⟨s1.heap.objs.size + 1, [s1.heap.objs.size + 1,s1.heap.objs.size],_,enS z,H1,rfl,I1.kept (t':=s1.toks) kk,cx_4 _ _ z t (Nat.succ_ne_self _),⟨⟨_,he⟩,hit⟩,fun b hb=> ?_,q⟩;have hb':b=s1.heap.objs.size + 1∨b=s1.heap.objs.size:=by simpa using hb
  have hbl:s1.heap.objs.size≤b:=by
   rcases hb' with rfl|rfl
   ·exact Nat.le_succ _
   ·exact Nat.le_refl _
  exact I1.fpOk hbl (I1.hok.fresh hbl)
theorem dh_7{G:Hp}{l:Addr}{ds:List D}(h:SqL K G l vs)(r:HasL K G vs ds):ItD K G (enL K l) (n_1 0 ds):=fun G' H g1 g i=>by
 refine⟨fun d e=> ?_,fun e=> ?_⟩
 ·obtain⟨d',e1,rfl⟩:=n_8 e;obtain⟨v,e2,hv⟩:=r.get e1;refine⟨⟨vs,v,(g1.trans g).seq h,e2⟩,fun x H' y=> ?_⟩;obtain⟨p,hp,rfl,y⟩:=y;have:=y vs v ((g1.trans g).seq h) e2;subst this;refine⟨_,Step.new g hp _, .tup (SqT.of b_3) (.cons (by rw [Nat.zero_add];exact .int _) (.cons (hv.mono (g1.trans (l_1 (g.free hp) _))) .nil))⟩
 ·rw [ao_5] at e;exact⟨vs,(g1.trans g).seq h,by rw [r.length];exact e⟩
theorem dh_8{G:Hp}(z:Str):ItD K G (enS z) (n_1 0 (q_3 z)):=fun G' H g1 g i=>by
 refine⟨fun d e=> ?_,fun e=> ?_⟩
 ·obtain⟨d',e1,rfl⟩:=n_8 e;unfold q_3 at e1;rw [List.getElem?_map] at e1;cases q:z.cps.toList[i]? with
  |none=>rw [q] at e1;cases e1
  |some c=>
   rw [q] at e1;cases e1;have hi:i < z.cps.size:=by
    have:=(List.getElem?_eq_some_iff.mp q).1;simpa using this
   refine⟨hi,fun x H' y=> ?_⟩;obtain⟨p,c',hp,rfl,hc,rfl⟩:=y;have:z.cps.toList[i]? =some c':=by simpa using hc
   rw [q] at this;cases this;refine⟨_,Step.new g hp _, .tup (SqT.of b_3) (.cons (by rw [Nat.zero_add];exact .int _) (.cons (.str _) .nil))⟩
 ·rw [ao_5] at e;unfold q_3 at e;rw [List.length_map] at e;show i=z.cps.size;simp at e;omega
theorem ae_6(hm:X.mg "enumerate" =none)(he:ED X EX a f)(hg:Gl X "enumerate" :=by rfl)(hs:starEach [a] X.env= [(false,eval a X.env)]:=by rfl)(hs1:starEach [a] X.env=(false,eval a X.env)::starEach [] X.env:=by rfl):
  ID X EX (.Tuple elts x1 tp) (.Call (.Name "enumerate" p) [a] [] pos) (s_3 f):=
 PI.imp (dh_6 hg hm (k_6 he x_6 hs1) hs) fun σ H Q ⟨G,δ,g0,s0,o⟩=>by
  refine⟨G,δ,g0,s0, ?_⟩;unfold s_3 at o;cases e1:f δ with
  |ok w=>
   rw [e1] at o;simp only [R.bind_ok] at o;refine WP.intro fun v G' H' st r=> ?_;revert r o;cases w.d with
   |lst ds=>
    intro o r;cases r with
    |lst h r=>exact .inl ⟨_,rfl,⟨_,st.gh.seq h⟩,o _ G' H' st (dh_7 h r)⟩
   |str z=>
    intro o r;cases r;exact .inr ⟨z,rfl,o _ G' H' st (dh_8 z)⟩
   |_=>intro o _;exact False.elim o
  |ex x=>rw [e1] at o;exact o
  |no=>rw [e1] at o;exact o
end
def C3(i j c:Int):Prop:=0≤i∧i.natAbs < 1073741824∧j.natAbs < 1073741824∧0 < c∧c.natAbs < 1073741824
instance (i j c:Int):Decidable (C3 i j c):=by unfold C3;exact inferInstance
section
variable{X:Cx}{EX:EXS}{tg a b c:Expr}{fa:FA}{ta:TA}{p pos:Pos}
end
section
variable{X:Cx}{EX:EXS}{a:Expr}{f:FE}{pos:Pos}
def ao_7:List D→Option (List Bool)
 | []=>some []
 | .bl b::ds=>(ao_7 ds).map (b:: ·)
 |_=>none
def allD:List D→R W
 | [.lst ds]=>match ao_7 ds with
  |some bs=> .ok (.sh (.bl (bs.all id)))
  |none=> .no
 |_=> .no
theorem bv_3{G:Hp}:∀{vs:List V} {ds:List D} {us:List Value} {bs:List Bool},HasL K G vs ds→Vals vs us→ao_7 ds=some bs→us=bs.map Value.bool
 |_,_,_,_, .nil,r,e=>by cases r;cases e;rfl
 |_,_,_,_, .cons h t,r,e=>by
  cases r with
  |cons r1 r2=>
   cases h with
   |bl x=>
    cases r1;simp only [ao_7] at e;obtain⟨zs,q,rfl⟩:=Option.map_eq_some_iff.mp e;rw [List.map_cons,bv_3 t r2 q]
   |_=>cases e
theorem co_7(bs:List Bool):(List.range bs.length).all (fun i=>bs.getD i true)=bs.all id:=by
 rw [Bool.eq_iff_iff,List.all_eq_true,List.all_eq_true];constructor
 ·intro h b hb;obtain⟨i,hi,e⟩:=List.getElem_of_mem hb;have:=h i (List.mem_range.mpr hi);simp [hi] at this;rw [←e];exact this
 ·intro h i hi;have hi:=List.mem_range.mp hi;simp [hi];exact h _ (List.getElem_mem hi)
theorem co_8(hc:X.calm=true):y_4 X (.builtin "all") allD:=by
 intro zc s σ H vs us Q I rv q;obtain⟨EX,G,ds,g,r,o⟩:=q;cases r with
 |nil=>exact False.elim o
 |cons h t=>
  cases t with
  |cons _ _=>cases h <;> exact False.elim o
  |nil=>
   cases h with
   |lst h r=>
    rename_i l _ _;simp only [allD] at o
    split at o
    ·rename_i bs e;obtain⟨u,rfl,ru⟩:=rv.one;cases ru;obtain⟨its,rv',pl,hz⟩:=I.list (g.seq h);have eb:=bv_3 r rv' e;subst eb;have nl:l≠s.heap.objs.size:=fun z=>by
      obtain⟨o',ho,_⟩:=pl.isList;exact absurd (Heap.lt_size ho) (by rw [←z];exact Nat.lt_irrefl _)
     refine call_all_walk (wpAny_pyIter_list pl.isList ⟨s.heap.objs.size,_,_,_,_,_,fun i=>bs.getD i true,rfl,Walks.list (A:=X.A.in1) (I.ok.hd hc) s.heap.objs.size l nl (bs.map Value.bool).toArray,⟨⟨_,Heap.get?_push_size _ rfl,rfl,rfl⟩, ?_⟩,fun i v s' Q' E' hP hQ=> ?_,fun h' tk kk=> ?_⟩)
     ·exact pl.isList.at fun o z=>Heap.get?_push_of_some _ z
     ·have hP':(bs.map Value.bool)[i]? =some v:=by simpa using hP
      rw [List.getElem?_map] at hP';cases q:bs[i]? with
      |none=>rw [q] at hP';cases hP'
      |some b=>
       rw [q] at hP';cases hP';have:bs.getD i true=b:=by simp [List.getD,q]
       dsimp only at hQ;rw [this] at hQ;exact wpAny_truthy_bool hQ
     ·have en:(bs.map Value.bool).toArray.size=bs.length:=by simp
      rw [en,co_7];refine⟨.bl _,H,I.kept (t':=tk) fun b o' z=>kk b o' (by
       have hb:b≠s.heap.objs.size:=Nat.ne_of_lt (Heap.lt_size z);simpa using hb) (Heap.get?_push_of_some _ z),rfl,d_7 o g (.bl _)⟩
    ·exact o.elim
   |_=>exact False.elim o
def ao_8:D→List D→R W
 | .str x, [.str y]=>match Builtin.Str.occurrences x y 0 x.length 1 with
  |i::_=> .ok (.sh (.int (i:Nat)))
  | []=> .no
 |_,_=> .no
theorem co_9:MtD X "str.index" ao_8:=by
 intro zc s σ H x vs v us Q I rx rv h;obtain⟨EX,G,d,ds,g,r,rl,o⟩:=h;refine ci_6 r rl (fun x y e1 e2 e3 e4=> ?_) fun n=> ?_
 ·subst e1 e2 e3 e4;obtain⟨t,rfl⟩:=rx;obtain⟨u,rfl,t',rfl⟩:=rv.one;simp only [ao_8] at o
  split at o
  ·rename_i i t_0 e;exact SC.index e ⟨.int _,H,I.tok _,⟨_,rfl⟩,d_7 o g (.int _)⟩
  ·exact o.elim
 ·have e:ao_8 d ds= .no:=by
   unfold ao_8
   split
   ·rename_i x y;exact absurd ⟨rfl,rfl⟩ (n x y)
   ·rfl
  rw [e] at o;exact o.elim
end
section
variable{prog:Program}{w:World}{A:Around}{E:Value→Shared→Prop}{s:Shared}
end
section
variable{X:Cx}{EX:EXS}{pos:Pos}
theorem HasS.skip{G:Hp}{σ:Sg}{δ:DE}{i:Nat}(h:HasS K G σ δ)(e:δ[i]? =some none):HasS K G (σ.set i (some v)) δ:=by
 refine⟨by rw [List.length_set];exact h.len,fun j d' e'=> ?_⟩;obtain⟨v',e1,r'⟩:=h.get j d' e';refine⟨v', ?_,r'⟩;rw [List.getElem?_set_ne]
 ·exact e1
 ·rintro rfl
  rw [e] at e';cases e'
end
section
variable{X:Cx}{EX:EXS}
def nonB:D→Bool
 | .non=>true
 |_=>false
def isND(neg:Bool):D→D→R W
 |d, .non=> .ok (.sh (.bl (if neg then !nonB d else nonB d)))
 |_,_=> .no
theorem ds_8{G:Hp}{d:D}(r:Has K G v d):decide (v= .non)=nonB d:=by
 cases r <;> rfl
theorem ak_2:OpD X (compareOp .Is) (isND false):=by
 intro zc s σ H x y v u Q I rx ry q;obtain⟨EX,G,a,b,g,ra,rb,o⟩:=q;cases rb with
 |non=>exact dq_4 zc s σ H _ _ _ _ Q I rx ry ⟨rfl,by rw [ds_8 ra];exact d_7 o g (.bl _)⟩
 |_=>exact False.elim o
def ak_3(i:Nat)(fi fe:FE):FS:=fun Δ=>match Δ[i]? with
 |some (.ow (.lst ds))=>(match fe (vall Δ) with
  | .ok w=>if flatD w.d=true then(match fi (vall Δ) with
   | .ok z=>(match z.d with
    | .int k=>(match ixN ds.length k with
     |some j=> .nx (Δ.set i (.ow (.lst (ds.set j w.d))))
     |none=> .no)
    |_=> .no)
   |_=> .no) else .no
  |_=> .no)
 |_=> .no
theorem bm_4{i:Nat}{x:Str}{e ie:Expr}{fe fi:FE}{p1 zg pos:Pos}(he:ED X EX e fe)(hi:ED X EX ie fi)(hN:X.N[i]? =some x:=by rfl)(hv:Vis X.env.scope x:=by first|exact Or.inl rfl|exact Or.inr (Or.inl rfl)|exact Or.inr (Or.inr rfl))(hd:(x ==("__debug__" :Str))=false:=by decide)
  (hcd:(x ==("__classdict__" :Str))=false:=by decide)
  (ha:∀v,assign (.Subscript (.Name x p1) ie zg) X.env v=(do
   let ov←holding [v] (eval (.Name x p1) X.env)
   let iv←holding [v,ov] (eval ie X.env)
   standAt zg
   holding [v,ov,iv] (setItem ov iv v)
   release [v,ov,iv] []):=by intro _;rfl)
  (hs:swapsWithSole [.Subscript (.Name x p1) ie zg] e pos.line X.env=pure false:=by rfl) (hw:swappedStores [.Subscript (.Name x p1) ie zg] e X.env=pure none:=by rfl)
  (h1:(assignEach [.Subscript (.Name x p1) ie zg] X.env).map (·.2)= [assign (.Subscript (.Name x p1) ie zg) X.env]:=by rfl):
  SD X EX (.Assign [.Subscript (.Name x p1) ie zg] e pos) (ak_3 i fi fe):=
 PS.imp (ct_2 he (ct_1 (h_4 hN hv hd hcd) hi bt_4 ha) hs hw h1) fun D σ H ⟨H0,G0,G,Δ,O,E,q⟩=>by
  unfold ak_3 at q
  split at q
  ·rename_i ds e1;obtain⟨v0,s1,t⟩:=E.ow i _ _ e1 rfl;obtain⟨a,vs,rfl,m,hH,rl⟩:=t.list_of
   ·skip
    refine⟨u_9 G H O,vall Δ,E.aH,E.gall, ?_⟩;cases e2:fe (vall Δ) with
    |ex x=>rw [e2] at q;exact q.elim
    |no=>rw [e2] at q;exact q.elim
    |ok w=>
     simp only [e2] at q
     split at q
     ·rename_i fl;refine WP.intro fun v G' H' st r=> ?_;have E1:=E.keep st.hh;refine⟨.ref a,s1,u_9 G H' O,vall Δ,E1.aH,E1.gall, ?_⟩;cases e3:fi (vall Δ) with
      |ex x=>simp only [e3] at q;exact q.elim
      |no=>simp only [e3] at q;exact q.elim
      |ok z=>
       simp only [e3] at q;refine WP.intro fun v2 G2 H2 st2 r2=> ?_;revert q r2;cases z.d with
       |int k=>
        intro q r2;cases r2;cases e4:ixN ds.length k with
        |none=>simp only [e4] at q;exact q.elim
        |some j=>
         simp only [e4] at q;have hH2:H2 a=some (.lst vs):=st2.hh _ _ (st.hh _ _ hH);refine⟨a,vs,k,j,rfl,rfl,hH2,by rw [rl.length];exact e4, ?_⟩;exact q σ G _ _ ((E1.keep st2.hh).writeL s1 m (HasL.set (r.ofFl fl) j rl)) (Same.refl _)
       |_=>intro q _;exact False.elim q
     ·exact q.elim
  ·exact q.elim
end
def Itv(K:Frag)(a:Addr)(xs:List V):It:=⟨fun i H=>SqL K H a xs∧i < xs.length,fun i H x H'=>H'=H∧xs[xs.length - 1 - i]? =some x,fun i _=>i=xs.length⟩
theorem cx_6{w:World}{tg:Expr}(a it:Addr)(xs:List V):Turn P w K tg (Itv K a xs) [it] it (fun i h=>h.IsRevIter it a ((xs.length:Int) - 1 - (i:Int))) where
 mem:=by simp
 obj:=fun i h st b hb=>by
  have e:b=it:=by simpa using hb
  subst e;obtain⟨o,e,c,d⟩:=st;exact⟨o,e,fun v z=>by rw [d] at z;cases z⟩
 keep:=fun i h h' st k=>st.at fun o e=>k it (by simp) o e
 item:=by
  intro X hP hw hK hc i zc s σ H E I hf st hg;subst hP hw hK;obtain⟨hq,hlt⟩:=hg;obtain⟨its,rv,p,hz⟩:=I.list hq;obtain⟨f0,f1,f2,f3,f4,f5⟩:=hf it (by simp);have e:(xs.length:Int) - 1 - (i:Int)=((xs.length - 1 - i:Nat):Int):=by omega
  rw [e] at st;obtain⟨x,hx⟩:∃x,xs[xs.length - 1 - i]? =some x:=⟨_,List.getElem?_eq_getElem (by omega)⟩;obtain⟨u,hu,ru⟩:=rv.get hx;refine wpAny_pyNext_rev_item st p.isList (x:=u) (by simpa using hu) fun h' st' sb=> ?_;have I1:Inv X zc σ H {s with heap:=h'}:=I.turned (t':=s.toks) (fun b o hb e=>(sb.2 b hb).trans e) f0 f1 f3 f4 f5;have e2:((xs.length - 1 - i:Nat):Int) - 1=(xs.length:Int) - 1 - ((i + 1:Nat):Int):=by omega
  rw [e2] at st';obtain⟨o,e,c,d⟩:=id st';exact⟨u,rfl,bs_9 (s:={s with heap:=h'}) e c d (by decide) ⟨x,H,I1,ru,⟨rfl,hx⟩,st',fun b hb=>(hf b hb).1⟩⟩
 done:=by
  intro X hP hw hK hc i zc s σ H E I hf st hg;subst hP hw hK;have hg:i=xs.length:=hg;subst hg;obtain⟨f0,f1,f2,f3,f4,f5⟩:=hf it (by simp);have e:(xs.length:Int) - 1 - (xs.length:Int)= -1:=by omega
  rw [e] at st;exact wpAny_pyNext_rev_end (I.ok.hd hc) st fun h' eb=>⟨rfl,I.turned (t':=s.toks) (fun b o hb e=>eb b o hb e) f0 f1 f3 f4 f5⟩
 self:=fun _ _ _ _ _ st h=>wpAny_pyIter_revIter st h
def dn_0:D→R (List D)
 | .lst ds=> .ok ds.reverse
 |_=> .no
def iRev(f:FE):FI:=fun δ=>(f δ).bind fun w=>dn_0 w.d
theorem dh_9{G:Hp}{l:Addr}{ds:List D}(h:SqL K G l vs)(r:HasL K G vs ds):ItD K G (Itv K l vs) ds.reverse:=fun G' H g1 g i=>by
 have hl:=r.length;refine⟨fun d e=> ?_,fun e=> ?_⟩
 ·have hi:i < ds.length:=by
   have:=(List.getElem?_eq_some_iff.mp e).1;simpa using this
  rw [List.getElem?_reverse hi] at e;obtain⟨v,e2,hv⟩:=r.get e;refine⟨⟨(g1.trans g).seq h,by omega⟩,fun x H' y=> ?_⟩;obtain⟨e3,y⟩:=y;subst e3;rw [hl,e2] at y;cases y;exact⟨G',Step.refl g,hv.mono g1⟩
 ·rw [List.length_reverse] at e;show i=vs.length;omega
section
variable{X:Cx}{EX:EXS}{tg a b:Expr}{f g:FE}{fa:FA}{p pos:Pos}
def iRv(K:Frag)(t:TA):TI:=fun σ H Q=>t σ H fun vs H1=>∃l xs,vs= [.ref l]∧SqL K H1 l xs∧Q (Itv K l xs) H1
theorem ds_9{ta:TA}(hg:Gl X "reversed")(hm:X.mg "reversed" =none)(ha:PA X [a] ta)(hs:starEach [a] X.env= [(false,eval a X.env)]:=by rfl):PI X tg (.Call (.Name "reversed" p) [a] [] pos) (iRv X.K ta):=by
 intro zc s σ H Q I h;refine Call_ (z_7 I hg hm PyProof.Rows.boot_reversed (PyProof.Rows.callWith_type1 (thn (ha pos zc s σ H _ I h) fun us s1 ⟨vs,H1,I1,r1,q1⟩=> ?_) hs rfl));obtain⟨l,xs,rfl,hq,q⟩:=q1;obtain⟨u,rfl,ru⟩:=r1.one;cases ru;obtain⟨its,rv,pl,hz⟩:=I1.list hq;have hl:=rv.length;refine call_reversed_list pl.isList ?_;refine wpAny_pyIter_revIter (i:=(its.toArray.size:Int) - 1) ⟨_,Heap.get?_push_size _ rfl,rfl,rfl⟩ ?_;refine⟨s1.heap.objs.size, [s1.heap.objs.size],_,Itv X.K l xs,H1,rfl,I1.kept (t':=s1.toks) fun b o e=>Heap.get?_push_of_some _ e,cx_6 l _ xs,⟨_,Heap.get?_push_size _ rfl,rfl, ?_⟩,fun b hb=> ?_,q⟩
 ·have e:(xs.length:Int) - 1 - ((0:Nat):Int)=(its.toArray.size:Int) - 1:=by simp;omega
  rw [e];rfl
 ·have e:b=s1.heap.objs.size:=by simpa using hb
  subst e;exact I1.fpOk (Nat.le_refl _) (I1.hok.fresh (Nat.le_refl _))
theorem cd_5(hm:X.mg "reversed" =none)(he:ED X EX a f)(hg:Gl X "reversed" :=by rfl)(hs:starEach [a] X.env= [(false,eval a X.env)]:=by rfl)(hs1:starEach [a] X.env=(false,eval a X.env)::starEach [] X.env:=by rfl):
  ID X EX tg (.Call (.Name "reversed" p) [a] [] pos) (iRev f):=
 PI.imp (ds_9 hg hm (k_6 he x_6 hs1) hs) fun σ H Q ⟨G,δ,g0,s0,o⟩=>by
  refine⟨G,δ,g0,s0, ?_⟩;unfold iRev at o;cases e1:f δ with
  |ok w=>
   rw [e1] at o;simp only [R.bind_ok] at o;refine WP.intro fun v G' H' st r=> ?_;revert r o;cases w.d with
   |lst ds=>
    intro o r;cases r with
    |lst h r=>exact⟨_,_,rfl,st.gh.seq h,o _ G' H' st (dh_9 h r)⟩
   |_=>intro o _;exact False.elim o
  |ex x=>rw [e1] at o;exact o
  |no=>rw [e1] at o;exact o
theorem HasL.rep{G:Hp}{ds:List D}(r:HasL K G vs ds):∀n:Nat,HasL K G (List.replicate n vs).flatten (List.replicate n ds).flatten
 |0=> .nil
 |n + 1=>by rw [List.replicate_succ,List.replicate_succ,List.flatten_cons,List.flatten_cons];exact r.append (HasL.rep r n)
def repD(ds:List D):D→R W
 | .int k=>if k.natAbs < 4611686018427387904∧ds.length * k.toNat≤16777216 then .ok (.ow (.lst (List.replicate k.toNat ds).flatten)) else .no
 |_=> .no
def eRep(fa:FA)(f:FE):FE:=fun δ=>(fa δ).bind fun ds=>if ds.length≤16777216 then(f δ).bind fun w=>repD ds w.d else .no
theorem cx_7{es:List Expr}{df:Pos}(ha:AD X EX es fa)(hb:ED X EX b f):ED X EX (.BinOp (.List es df) .Mult b pos) (eRep fa f):=
 PE.imp (dm_7 dr_4 (cu_1 ha) hb) fun σ H Q ⟨G,δ,g0,s0,o⟩=>tDa.seq g0 s0 o fun ds vs G' H' _ st r o'=>by
  split at o'
  ·rename_i hz;refine⟨by rw [r.length,sizeLine_eq];exact hz,fun q hq=> ?_⟩;have so:=Step.own st.gh hq (.lst vs);refine tD.seq so.gh (s0.mono st.gg) (Out.mono so o') fun w v G2 H2 _ st2 r2 o2=> ?_;revert r2 o2;cases w.d with
   |int k=>
    intro r2 o2;cases r2;simp only [repD] at o2
    split at o2
    ·rename_i hk;exact⟨q,k,vs,rfl,rfl,st2.hh _ _ b_3,by have:=hk.1;omega,by have:=hk.1;omega,by rw [r.length,sizeLine_eq];exact hk.2,w_7 o2 st2.gh ((r.mono st2.gg).rep k.toNat)⟩
    ·exact o2.elim
   |_=>intro _ o2;exact False.elim o2
  ·exact o'.elim
def bh_2:List D→Option (List Int)
 | []=>some []
 | .int i::ds=>(bh_2 ds).map (i:: ·)
 |_=>none
def sumD:List D→R W
 | [.lst ds]=>match bh_2 ds with
  |some is=> .ok (.sh (.int is.sum))
  |none=> .no
 |_=> .no
theorem ci_8{G:Hp}:∀{vs:List V} {ds:List D} {us:List Value} {is:List Int},HasL K G vs ds→Vals vs us→bh_2 ds=some is→us.length=is.length∧∀(j:Nat) (v:Value),us[j]? =some v→∃t,v= .int (is.getD j 0) t
 |_,_,_,_, .nil,r,e=>by cases r;cases e;exact⟨rfl,fun j v h=>by simp at h⟩
 |_,_,_,_, .cons h t,r,e=>by
  cases r with
  |cons r1 r2=>
   cases h with
   |int x=>
    obtain⟨tk,rfl⟩:=r1;simp only [bh_2] at e;obtain⟨zs,q,rfl⟩:=Option.map_eq_some_iff.mp e;obtain⟨h1,h2⟩:=ci_8 t r2 q;refine⟨by simp [h1],fun j v hj=> ?_⟩;cases j with
    |zero=>simp at hj;subst hj;exact⟨tk,rfl⟩
    |succ j=>
     obtain⟨t',e'⟩:=h2 j v (by simpa using hj);exact⟨t',by rw [e'];simp⟩
   |_=>cases e
theorem ar_2(is:List Int):∀j,preSum (fun i=>is.getD i 0) j=(is.take j).sum
 |0=>by simp [preSum]
 |j + 1=>by rw [preSum,ar_2 is j,PySem.sum_take_succ]
theorem bh_3(hc:X.calm=true):y_4 X (.builtin "sum") sumD:=by
 intro zc s σ H vs us Q I rv q;obtain⟨EX,G,ds,g,r,o⟩:=q;cases r with
 |nil=>exact False.elim o
 |cons h t=>
  cases t with
  |cons _ _=>cases h <;> exact False.elim o
  |nil=>
   cases h with
   |lst h r=>
    rename_i l _ _;simp only [sumD] at o
    split at o
    ·rename_i is e;obtain⟨u,rfl,ru⟩:=rv.one;cases ru;obtain⟨its,rv',pl,hz⟩:=I.list (g.seq h);obtain⟨el,ev⟩:=ci_8 r rv' e;have nl:l≠s.heap.objs.size:=fun z=>by
      obtain⟨o',ho,_⟩:=pl.isList;exact absurd (Heap.lt_size ho) (by rw [←z];exact Nat.lt_irrefl _)
     have ll:l < s.heap.objs.size:=by
      obtain⟨o',ho,_⟩:=pl.isList;exact Heap.lt_size ho
     refine call_sum_walkAnyS (wpAny_pyIter_list pl.isList ⟨s.heap.objs.size,_,_,_,_,_,_,fun i=>is.getD i 0,rfl,(Walks.list (A:=X.A.in1) (I.ok.hd hc) s.heap.objs.size l nl its.toArray).toS,⟨⟨_,Heap.get?_push_size _ rfl,rfl,rfl⟩, ?_⟩,fun b hb=> ?_,fun i v hP=>ev i v (by simpa using hP),fun s' t' mv=> ?_⟩)
     ·exact pl.isList.at fun o z=>Heap.get?_push_of_some _ z
     ·rw [Heap.size_push];have hb':b=s.heap.objs.size∨b=l:=by simpa using hb
      rcases hb' with rfl|rfl
      ·exact Nat.lt_succ_self _
      ·exact Nat.lt_succ_of_lt ll
     ·have en:its.toArray.size=is.length:=by simp [el]
      rw [en,ar_2,List.take_length];obtain⟨m1,m2,m3,m4,m5⟩:=mv;have e':s'={s with heap:=s'.heap,toks:=s'.toks}:=by
       cases s';simp only at m2 m3 m4;subst m2 m3 m4;rfl
      rw [e'];refine⟨.int _,H,I.kept (t':=s'.toks) fun b o' z=>m1 b o' (by
       have hb:b≠s.heap.objs.size:=Nat.ne_of_lt (Heap.lt_size z);simpa using hb) (Heap.get?_push_of_some _ z),⟨t',rfl⟩,d_7 o g (.int _)⟩
    ·exact o.elim
   |_=>exact False.elim o
theorem cp_1{G:Hp}(lo:Int):∀n:Nat,HasL K G ((List.range n).map fun(k:Nat)=>V.int (lo + (k:Int))) (b_5 lo n):=by
 intro n;unfold b_5;generalize List.range n=l
 induction l with
 |nil=>exact .nil
 |cons a l ih=>exact .cons (.int _) ih
theorem dy_8{n:Nat}{lo:Int}{zm:Array Value}(h:PySem.ItemsOf (fun i v=>∃t,v= .int (lo + i * 1) t) zm n):Vals ((List.range n).map fun(k:Nat)=>V.int (lo + (k:Int))) zm.toList:=by
 obtain⟨h1,h2⟩:=h;have all:∀(l:List Value) (k:Nat),(∀(j:Nat) v,l[j]? =some v→∃t,v= .int (lo + ((k + j:Nat):Int)) t)→Vals ((List.range' k l.length).map fun(k:Nat)=>V.int (lo + (k:Int))) l:=by
  intro l
  induction l with
  |nil=>intro k _;exact .nil
  |cons a l ih=>
   intro k h;rw [List.length_cons,List.range'_succ,List.map_cons];refine .cons ?_ (ih (k + 1) fun j v hj=> ?_)
   ·obtain⟨t,e⟩:=h 0 a rfl;exact⟨t,by rw [e];rfl⟩
   ·obtain⟨t,e⟩:=h (j + 1) v (by simpa using hj);exact⟨t,by rw [e,show k + (j + 1)=k + 1 + j by omega]⟩
 have:=all zm.toList 0 fun j v hj=>by
  obtain⟨t,e⟩:=h2 j v (by simpa using hj);exact⟨t,by rw [e];simp⟩
 rw [show zm.toList.length=n by simpa using h1] at this;rw [List.range_eq_range'];exact this
theorem bv_4{zc:List (Addr×Obj)}{s:Shared}{σ:Sg}{Q:VK}{lo hi:Int}{t u v:Tok}{tk:Nat}(hc:X.calm=true)(I:Inv X zc σ H s)(h1: -(2 ^ 62)≤lo)(h2:lo < 2 ^ 62)(h3: -(2 ^ 62)≤hi)(h4:hi < 2 ^ 62)(hz:(hi - lo).toNat≤16777216)
  (q:∀p,H p=none→Q (.ref p) (upd H p (.lst ((List.range (hi - lo).toNat).map fun(k:Nat)=>V.int (lo + (k:Int)))))):
  wpAny (model X.prog X.w) X.A (call (.type "list") [.ref s.heap.objs.size]) (EP X zc σ Q) X.xe {s with heap:=s.heap.push {cls:= .type "range",data:= .fields #[.int lo t, .int hi u, .int 1 v]},toks:=tk}:=by
 have I1:Inv X zc σ H {s with heap:=s.heap.push {cls:= .type "range",data:= .fields #[.int lo t, .int hi u, .int 1 v]},toks:=tk}:=I.kept fun b o e=>Heap.get?_push_of_some _ e;have en:Builtin.Range.rangeSize lo hi 1=(((hi - lo).toNat:Nat):Int):=by rw [rangeSize_one];split <;> omega
 refine PySem.call_list_range (I1.ok.hd hc) (IsRange.new ..) (small_one h1 h2 h3 h4) en hz fun h' tk' zm c kk hat it=> ?_;have rv:=dy_8 it;have fr:=I1.hok.fresh (Nat.le_refl _);refine⟨.ref _,upd H _ (.lst _),I1.laid (t':=tk') kk (Nat.le_refl _) ⟨?_,zm.toList,c,rv,by simpa using hat⟩,rfl,q _ fr⟩;rw [rv.length,sizeLine_eq];have:=it.1;simp;omega
def eRng(k:List D→R (List D))(fa:FA):FE:=fun δ=>(fa δ).bind fun as=>(k as).bind fun ds=>if ds.length≤16777216 then .ok (.ow (.lst ds)) else .no
def ci_9(i:Nat)(js:List Nat)(fi fe:FE):FS:=fun Δ=>match(gsome js Δ)[i]? with
 |some (.ow (.lst ds))=>(match fe (vsh (gsome js Δ)) with
  | .ok w=>(match fi (vall (gsome js Δ)) with
   | .ok z=>(match z.d with
    | .int k=>(match ixN ds.length k with
     |some j=> .nx ((gsome js Δ).set i (.ow (.lst (ds.set j w.d))))
     |none=> .no)
    |_=> .no)
   |_=> .no)
  |_=> .no)
 |_=> .no
theorem di_3{i:Nat}(js:List Nat){x:Str}{e ie:Expr}{fe fi:FE}{p1 zg pos:Pos}(he:ED X EX e fe)(hi:ED X EX ie fi)(hN:X.N[i]? =some x:=by rfl)(hv:Vis X.env.scope x:=by first|exact Or.inl rfl|exact Or.inr (Or.inl rfl)|exact Or.inr (Or.inr rfl))(hd:(x ==("__debug__" :Str))=false:=by decide)
  (hcd:(x ==("__classdict__" :Str))=false:=by decide)
  (ha:∀v,assign (.Subscript (.Name x p1) ie zg) X.env v=(do
   let ov←holding [v] (eval (.Name x p1) X.env)
   let iv←holding [v,ov] (eval ie X.env)
   standAt zg
   holding [v,ov,iv] (setItem ov iv v)
   release [v,ov,iv] []):=by intro _;rfl)
  (hs:swapsWithSole [.Subscript (.Name x p1) ie zg] e pos.line X.env=pure false:=by rfl) (hw:swappedStores [.Subscript (.Name x p1) ie zg] e X.env=pure none:=by rfl)
  (h1:(assignEach [.Subscript (.Name x p1) ie zg] X.env).map (·.2)= [assign (.Subscript (.Name x p1) ie zg) X.env]:=by rfl):
  SD X EX (.Assign [.Subscript (.Name x p1) ie zg] e pos) (ci_9 i js fi fe):=
 PS.imp (ct_2 he (ct_1 (h_4 hN hv hd hcd) hi bt_4 ha) hs hw h1) fun D σ H ⟨H0,G0,G,Δ,O,E,q⟩=>by
  obtain⟨G1,O1,sg,E1⟩:=E.gsome js;unfold ci_9 at q;generalize gsome js Δ=Δ1 at q E1
  split at q
  ·rename_i ds e1;obtain⟨v0,s1,t⟩:=E1.ow i _ _ e1 rfl;obtain⟨a,vs,rfl,m,hH,rl⟩:=t.list_of
   ·skip
    refine⟨G1,vsh Δ1,E1.st.gh,E1.gsh, ?_⟩;cases e2:fe (vsh Δ1) with
    |ex x=>rw [e2] at q;exact q.elim
    |no=>rw [e2] at q;exact q.elim
    |ok w=>
     simp only [e2] at q;refine WP.intro fun v G' H' st r=> ?_;have E2:=E1.grow st;refine⟨.ref a,s1,u_9 G' H' O1,vall Δ1,E2.aH,E2.gall, ?_⟩;cases e3:fi (vall Δ1) with
     |ex x=>simp only [e3] at q;exact q.elim
     |no=>simp only [e3] at q;exact q.elim
     |ok z=>
      simp only [e3] at q;refine WP.intro fun v2 G2 H2 st2 r2=> ?_;revert q r2;cases z.d with
      |int k=>
       intro q r2;cases r2;cases e4:ixN ds.length k with
       |none=>simp only [e4] at q;exact q.elim
       |some j=>
        simp only [e4] at q;have hH2:H2 a=some (.lst vs):=st2.hh _ _ (st.hh _ _ hH);refine⟨a,vs,k,j,rfl,rfl,hH2,by rw [rl.length];exact e4, ?_⟩;exact q σ G' _ _ ((E2.keep st2.hh).writeL s1 m (HasL.set r j (rl.mono st.gg))) (sg.trans st.gg)
      |_=>intro q _;exact False.elim q
  ·exact q.elim
end
section
variable{K:Frag}{x qual:Str}{st:Stmt}{f:Addr}{fd:FuncData}{ps:List Str}
theorem Fun.binds1(F:Fun K x qual st f fd)(hl:ps.length=1:=by rfl)(h:∀(kV doc pm:Value) (an:Option Addr) (zn ct a:Value),bindArgs (fnOf x qual (g_2 st) (e_1 st) (b_2 st) .none kV doc pm an zn ct) ⟨[a], []⟩=pure (ps.zip [a]):=by intros;rfl):Binds K fd ps []:=
 F.binds fun kV doc pm an zn ct us hu=>match us,hu.trans hl with| [a],_=>h kV doc pm an zn ct a
theorem Fun.binds2(F:Fun K x qual st f fd)(hl:ps.length=2:=by rfl)(h:∀(kV doc pm:Value) (an:Option Addr) (zn ct a b:Value),bindArgs (fnOf x qual (g_2 st) (e_1 st) (b_2 st) .none kV doc pm an zn ct) ⟨[a,b], []⟩=pure (ps.zip [a,b]):=by intros;rfl):Binds K fd ps []:=
 F.binds fun kV doc pm an zn ct us hu=>match us,hu.trans hl with| [a,b],_=>h kV doc pm an zn ct a b
theorem Fun.binds3(F:Fun K x qual st f fd)(hl:ps.length=3:=by rfl)(h:∀(kV doc pm:Value) (an:Option Addr) (zn ct a b c:Value),bindArgs (fnOf x qual (g_2 st) (e_1 st) (b_2 st) .none kV doc pm an zn ct) ⟨[a,b,c], []⟩=pure (ps.zip [a,b,c]):=by intros;rfl):Binds K fd ps []:=
 F.binds fun kV doc pm an zn ct us hu=>match us,hu.trans hl with| [a,b,c],_=>h kV doc pm an zn ct a b c
theorem Fun.binds4(F:Fun K x qual st f fd)(hl:ps.length=4:=by rfl)(h:∀(kV doc pm:Value) (an:Option Addr) (zn ct a b c d:Value),bindArgs (fnOf x qual (g_2 st) (e_1 st) (b_2 st) .none kV doc pm an zn ct) ⟨[a,b,c,d], []⟩=pure (ps.zip [a,b,c,d]):=by intros;rfl):Binds K fd ps []:=
 F.binds fun kV doc pm an zn ct us hu=>match us,hu.trans hl with| [a,b,c,d],_=>h kV doc pm an zn ct a b c d
theorem Fun.binds5(F:Fun K x qual st f fd)(hl:ps.length=5:=by rfl)(h:∀(kV doc pm:Value) (an:Option Addr) (zn ct a b c d e:Value),bindArgs (fnOf x qual (g_2 st) (e_1 st) (b_2 st) .none kV doc pm an zn ct) ⟨[a,b,c,d,e], []⟩=pure (ps.zip [a,b,c,d,e]):=by intros;rfl):Binds K fd ps []:=
 F.binds fun kV doc pm an zn ct us hu=>match us,hu.trans hl with| [a,b,c,d,e],_=>h kV doc pm an zn ct a b c d e
theorem Fun.binds6(F:Fun K x qual st f fd)(hl:ps.length=6:=by rfl)(h:∀(kV doc pm:Value) (an:Option Addr) (zn ct a b c d e g:Value),bindArgs (fnOf x qual (g_2 st) (e_1 st) (b_2 st) .none kV doc pm an zn ct) ⟨[a,b,c,d,e,g], []⟩=pure (ps.zip [a,b,c,d,e,g]):=by intros;rfl):Binds K fd ps []:=
 F.binds fun kV doc pm an zn ct us hu=>match us,hu.trans hl with| [a,b,c,d,e,g],_=>h kV doc pm an zn ct a b c d e g
theorem Fun.binds7(F:Fun K x qual st f fd)(hl:ps.length=7:=by rfl)(h:∀(kV doc pm:Value) (an:Option Addr) (zn ct a b c d e g k:Value),bindArgs (fnOf x qual (g_2 st) (e_1 st) (b_2 st) .none kV doc pm an zn ct) ⟨[a,b,c,d,e,g,k], []⟩=pure (ps.zip [a,b,c,d,e,g,k]):=by intros;rfl):Binds K fd ps []:=
 F.binds fun kV doc pm an zn ct us hu=>match us,hu.trans hl with| [a,b,c,d,e,g,k],_=>h kV doc pm an zn ct a b c d e g k
end
structure ZApart(z TI TO i1 i2:Addr):Prop where
 TIz:TI≠z
 TOz:TO≠z
 i1z:i1≠z
 i2z:i2≠z
 TITO:TI≠TO
 TIi1:TI≠i1
 TIi2:TI≠i2
 TOi1:TO≠i1
 TOi2:TO≠i2
 i12:i1≠i2
section
variable{X:Cx}{EX:EXS}{a b:Expr}{fa:FA}{elts:List Expr}{x1:Nat}{tp p pos:Pos}
end
def met(is:List Int):List Int:=PyProof.Rows.firstMet (fun i=>is.getD i 0) is.length
section
variable{X:Cx}{EX:EXS}{a:Expr}{f:FE}{p p' pos pos':Pos}
end
def keyD:D→Option Key
 | .int i=>some (.inl i)
 | .str x=>some (.inr x)
 |_=>none
theorem aa_0{G:Hp}{d:D}{k:Key}(r:Has K G v d)(e:keyD d=some k):v=kV k:=by
 cases r <;> first|(cases e;rfl)|cases e
section
variable{α:Type}
def r_1(kvs:List (Key×α))(k:Key):Option α:=(kvs.find? fun kv=>decide (kv.1=k)).map (·.2)
def putA(kvs:List (Key×α))(k:Key)(v:α):List (Key×α):=if(kvs.any fun kv=>decide (kv.1=k))=true then kvs.map (fun kv=>if kv.1=k then(kv.1,v) else kv) else kvs ++ [(k,v)]
def ac_6(kvs:List (Key×α))(k:Key):List (Key×α):=kvs.filter fun kv=>decide (kv.1≠k)
def hasA(kvs:List (Key×α))(k:Key):Bool:=(r_1 kvs k).isSome
end
theorem cj_0(kvs:List (Key×V))(k:Key)(v:V):putK kvs k v=putA kvs k v:=rfl
theorem av_4{G:Hp}:∀{kvs:List (Key×V)} {kds:List (Key×D)} (k:Key),kvs.map (·.1)=kds.map (·.1)→HasL K G (kvs.map (·.2)) (kds.map (·.2))→(u_8 kvs k).isSome=hasA kds k∧∀d,r_1 kds k=some d→∃v,u_8 kvs k=some v∧Has K G v d
 | [], [],k,_,_=>⟨rfl,fun d e=>by cases e⟩
 | [],_::_,k,e,_=>by simp at e
 |_::_, [],k,e,_=>by simp at e
 |(x,v)::kvs,(y,d)::kds,k,e,r=>by
  simp only [List.map_cons,List.cons.injEq] at e;obtain⟨e1,e2⟩:=e;subst e1;cases r with
  |cons h r=>
   obtain⟨i1,i2⟩:=av_4 (kvs:=kvs) (kds:=kds) k e2 r
   by_cases q:x=k
   ·have a1:u_8 ((x,v)::kvs) k=some v:=ac_2 q;have a2:r_1 ((x,d)::kds) k=some d:=by unfold r_1;rw [List.find?_cons_of_pos (by simpa using q)];rfl
    refine⟨by unfold hasA;rw [a1,a2];rfl,fun d' e'=> ?_⟩;rw [a2] at e';cases e';exact⟨v,a1,h⟩
   ·have a1:u_8 ((x,v)::kvs) k=u_8 kvs k:=ac_3 q;have a2:r_1 ((x,d)::kds) k=r_1 kds k:=by unfold r_1;rw [List.find?_cons_of_neg (by simpa using q)]
    refine⟨by unfold hasA at i1⊢;rw [a1,a2];exact i1,fun d' e'=> ?_⟩;rw [a2] at e';rw [a1];exact i2 d' e'
theorem ay_2{α β:Type}:∀{kvs:List (Key×α)} {kds:List (Key×β)} (k:Key),kvs.map (·.1)=kds.map (·.1)→(kvs.any fun kv=>decide (kv.1=k))=kds.any fun kv=>decide (kv.1=k)
 | [], [],_,_=>rfl
 | [],_::_,k,e=>by simp at e
 |_::_, [],k,e=>by simp at e
 |(x,v)::kvs,(y,d)::kds,k,e=>by
  simp only [List.map_cons,List.cons.injEq] at e;obtain⟨e1,e2⟩:=e;subst e1;rw [List.any_cons,List.any_cons,ay_2 k e2]
theorem cj_1{G:Hp}{kvs:List (Key×V)}{kds:List (Key×D)}(k:Key){d:D}(e:kvs.map (·.1)=kds.map (·.1))(r:HasL K G (kvs.map (·.2)) (kds.map (·.2)))(h:Has K G v d):
  (putK kvs k v).map (·.1)=(putA kds k d).map (·.1)∧HasL K G ((putK kvs k v).map (·.2)) ((putA kds k d).map (·.2)):=by
 rw [cj_0];unfold putA;rw [ay_2 k e]
 split
 ·have all:∀{kvs:List (Key×V)} {kds:List (Key×D)},kvs.map (·.1)=kds.map (·.1)→HasL K G (kvs.map (·.2)) (kds.map (·.2))→
    (kvs.map (fun kv=>if kv.1=k then(kv.1,v) else kv)).map (·.1)=(kds.map (fun kv=>if kv.1=k then(kv.1,d) else kv)).map (·.1)∧HasL K G ((kvs.map (fun kv=>if kv.1=k then(kv.1,v) else kv)).map (·.2)) ((kds.map (fun kv=>if kv.1=k then(kv.1,d) else kv)).map (·.2)):=by
   intro kvs
   induction kvs with
   |nil=>
    intro kds e r;cases kds with
    |nil=>exact⟨rfl, .nil⟩
    |cons _ _=>simp at e
   |cons p kvs ih=>
    intro kds e r;cases kds with
    |nil=>simp at e
    |cons q kds=>
     obtain⟨x,u⟩:=p;obtain⟨y,w⟩:=q;simp only [List.map_cons,List.cons.injEq] at e;obtain⟨e1,e2⟩:=e;subst e1;cases r with
     |cons h1 r=>
      obtain⟨i1,i2⟩:=ih e2 r;simp only [List.map_cons]
      by_cases z:x=k
      ·simp only [z,if_true];exact⟨by rw [i1], .cons h i2⟩
      ·simp only [z,if_false];exact⟨by rw [i1], .cons h1 i2⟩
  exact all e r
 ·refine⟨by rw [List.map_append,List.map_append,e];rfl, ?_⟩;rw [List.map_append,List.map_append];exact r.append (.cons h .nil)
section
variable{X:Cx}{EX:EXS}{pos:Pos}
def ar_3:FE:=fun _=> .ok (.ow (.dic []))
theorem av_5:ED X EX (.Dict [] [] pos) ar_3:=PE.imp bt_9 fun σ H Q ⟨G,δ,g,s,o⟩=>fun p hp=>
 o (.ref p) (fun b=>b=p) G _ (Step.own g hp _) (fun a e=>by subst e;exact⟨hp,g.free hp,by rw [b_3];simp⟩) (.dict b_3 rfl rfl .nil)
def inK(neg:Bool):D→D→R W
 |d, .dic kvs=>match keyD d with
  |some k=> .ok (.sh (.bl (if neg then !hasA kvs k else hasA kvs k)))
  |none=> .no
 |_,_=> .no
theorem DGet.rd{a:Addr}{kvs:List (Key×V)}{k:Key}(e:Rd H a (.dK kvs)):DGet H a (kV k) (u_8 kvs k):= .inl ⟨kvs,k,e,rfl,rfl⟩
theorem dt_0(hu:X.A.units + 64 < cLine):OpD X (compareOp .In) (inK false):=by
 intro zc s σ H x y v u Q I rx ry q;obtain⟨EX,G,a,b,g,ra,rb,o⟩:=q;cases rb with
 |dic h hk r=>
  simp only [inK] at o
  split at o
  ·rename_i k ek;have ex:=aa_0 ra ek;subst ex;cases ry;refine d_in (by omega) I (DGet.rd (k:=k) (Same.rdD g h)) rx fun s' I'=>⟨.bl _,H,I',rfl, ?_⟩;rw [(av_4 k hk r).1];exact d_7 o g (.bl _)
  ·exact o.elim
 |_=>exact False.elim o
theorem ap_0(hu:X.A.units + 64 < cLine):OpD X (compareOp .NotIn) (inK true):=by
 intro zc s σ H x y v u Q I rx ry q;obtain⟨EX,G,a,b,g,ra,rb,o⟩:=q;cases rb with
 |dic h hk r=>
  simp only [inK] at o
  split at o
  ·rename_i k ek;have ex:=aa_0 ra ek;subst ex;cases ry;refine dg_4 (by omega) I (DGet.rd (k:=k) (Same.rdD g h)) rx fun s' I'=>⟨.bl _,H,I',rfl, ?_⟩;rw [(av_4 k hk r).1];exact d_7 o g (.bl _)
  ·exact o.elim
 |_=>exact False.elim o
def getK:D→D→R W
 | .dic kvs,d=>match keyD d with
  |some k=>(match r_1 kvs k with
   |some x=> .ok (.sh x)
   |none=> .no)
  |none=> .no
 |_,_=> .no
theorem cj_2{o i:Expr}{f g:FE}(hu:X.A.units + 64 < cLine)(ho:ED X EX o f)(hi:ED X EX i g)(hs:NoSl i:=by intro _ _;rfl):ED X EX (.Subscript o i pos) (eOp getK f g):=
 PE.imp (bl_5 (by omega) ho hi hs) fun σ H Q ⟨G,δ,g0,s0,o⟩=>tD.seq g0 s0 o fun w v G1 H1 _ st1 r1 o1=>tD.seq st1.gh (s0.mono st1.gg) o1 fun w2 v2 G2 H2 _ st2 r2 o2=>by
  have r1:=r1.mono st2.gg;revert r1 o2;cases w.d with
  |dic kvs=>
   intro o2 r1;simp only [getK] at o2
   split at o2
   ·rename_i k ek
    split at o2
    ·rename_i x ex;cases r1 with
     |dic h hk r=>
      obtain⟨u,e1,e2⟩:=(av_4 k hk r).2 x ex;have e3:=aa_0 r2 ek;subst e3;refine⟨_,u,rfl, ?_,d_7 o2 st2.gh e2⟩;rw [←e1];exact DGet.rd (Same.rdD st2.gh h)
    ·exact o2.elim
   ·exact o2.elim
  |_=>intro o2 _;exact False.elim o2
def lenK:List D→R W
 | [.dic kvs]=> .ok (.sh (.int kvs.length))
 |_=> .no
theorem cp_2:y_4 X (.builtin "len") lenK:=by
 intro zc s σ H vs us Q I rv q;obtain⟨EX,G,ds,g,r,o⟩:=q;cases r with
 |nil=>exact False.elim o
 |cons h t=>
  cases t with
  |cons _ _=>cases h <;> exact False.elim o
  |nil=>
   cases h with
   |dic h hk r=>
    rename_i kvs kds;obtain⟨u,rfl,ru⟩:=rv.one;cases ru;refine dy_0 I (Same.rdD g h) fun t s' I'=>⟨.int _,H,I',⟨t,rfl⟩, ?_⟩;have hl:kds.length=kvs.length:=by
     have:=congrArg List.length hk;rw [List.length_map,List.length_map] at this;exact this.symm
    rw [←hl];exact d_7 o g (.int _)
   |_=>exact False.elim o
def ak_5(i:Nat)(js:List Nat)(fk fe:FE):FS:=fun Δ=>match(gsome js Δ)[i]? with
 |some (.ow (.dic kvs))=>(match fe (vsh (gsome js Δ)) with
  | .ok w=>(match fk (vall (gsome js Δ)) with
   | .ok z=>(match keyD z.d with
    |some k=>if kvs.length < 16777216 then .nx ((gsome js Δ).set i (.ow (.dic (putA kvs k w.d)))) else .no
    |none=> .no)
   |_=> .no)
  |_=> .no)
 |_=> .no
theorem bm_5{i:Nat}(js:List Nat){x:Str}{e ie:Expr}{fe fk:FE}{p1 zg pos:Pos}(hu:X.A.units + 64 < cLine)(he:ED X EX e fe)(hi:ED X EX ie fk)(hN:X.N[i]? =some x:=by rfl)(hv:Vis X.env.scope x:=by first|exact Or.inl rfl|exact Or.inr (Or.inl rfl)|exact Or.inr (Or.inr rfl))(hd:(x ==("__debug__" :Str))=false:=by decide)
  (hcd:(x ==("__classdict__" :Str))=false:=by decide) (hs:swapsWith e (some (.Subscript (.Name x p1) ie zg)) pos.line X.env=pure false:=by rfl):
  SD X EX (.Assign [.Subscript (.Name x p1) ie zg] e pos) (ak_5 i js fk fe):=
 PS.imp (bl_6 (by omega) (h_4 hN hv hd hcd) hi he hs) fun D σ H ⟨H0,G0,G,Δ,O,E,q⟩=>by
  obtain⟨G1,O1,sg,E1⟩:=E.gsome js;unfold ak_5 at q;generalize gsome js Δ=Δ1 at q E1
  split at q
  ·rename_i kds e1;obtain⟨v0,s1,t⟩:=E1.ow i _ _ e1 rfl;obtain⟨a,kvs,rfl,m,hH,hk,rl⟩:=t.dict_of;refine⟨G1,vsh Δ1,E1.st.gh,E1.gsh, ?_⟩;cases e2:fe (vsh Δ1) with
   |ex x=>rw [e2] at q;exact q.elim
   |no=>rw [e2] at q;exact q.elim
   |ok w=>
    simp only [e2] at q;refine WP.intro fun v G' H' st r=> ?_;have E2:=E1.grow st;refine⟨.ref a,s1,u_9 G' H' O1,vall Δ1,E2.aH,E2.gall, ?_⟩;cases e3:fk (vall Δ1) with
    |ex x=>simp only [e3] at q;exact q.elim
    |no=>simp only [e3] at q;exact q.elim
    |ok z=>
     simp only [e3] at q;refine WP.intro fun v2 G2 H2 st2 r2=> ?_
     split at q
     ·rename_i k ek
      split at q
      ·rename_i hl;have e4:=aa_0 r2 ek;subst e4;have hH2:H2 a=some (.dK kvs):=st2.hh _ _ (st.hh _ _ hH);have hle:kvs.length=kds.length:=by
        have:=congrArg List.length hk
        rwa [List.length_map,List.length_map] at this
       obtain⟨p1,p2⟩:=cj_1 k hk (rl.mono st.gg) r;exact⟨a,_,rfl,DPut.k hH2 (by rw [hle,sizeLine_eq];exact hl),q σ G' _ _ ((E2.keep st2.hh).writeD s1 m p1 p2) (sg.trans st.gg)⟩
      ·exact q.elim
     ·exact q.elim
  ·exact q.elim
end
section
variable{K:Frag}{H0 H1:HB}{G0 G H:Hp}{σ:Sg}{Δ:SE}{O:OS}
end
section
variable{X:Cx}{EX:EXS}{pos:Pos}
end
section
variable{X:Cx}{EX:EXS}{pos:Pos}
end
theorem dt_1(t:Tn):Sl.any (.tr t)=some t.d:=rfl
section
variable{X:Cx}{EX:EXS}{a b:Expr}{fa:FA}{p pos:Pos}
theorem bd_0{p' pos':Pos}(hc:X.calm=true)(hml:X.mg "list" =none)(hm:X.mg "range" =none)(ha:AD X EX [a,b] fa)(hgl:Gl X "list" :=by rfl)(hg:Gl X "range" :=by rfl)
  (hs:starEach [a,b] X.env= [(false,eval a X.env),(false,eval b X.env)]:=by rfl) (hs3:starEach [b] X.env= [(false,eval b X.env)]:=by rfl)
  (hs2:starEach [.Call (.Name "range" p') [a,b] [] pos'] X.env=(false,eval (.Call (.Name "range" p') [a,b] [] pos') X.env)::starEach [] X.env:=by rfl):
  ED X EX (.Call (.Name "list" p) [.Call (.Name "range" p') [a,b] [] pos'] [] pos) (eRng rng2 fa):=by
 intro zc s σ H Q I q;obtain⟨G,δ,g0,s0,o⟩:=q;refine Call_ (z_7 I hgl hml PyProof.Rows.boot_list (PyProof.Rows.callWith_type1 ?_ hs2 rfl));rw [hs2];show wpAny _ _ (spliced ((false,eval (.Call (.Name "range" p') [a,b] [] pos') X.env)::backTo pos (starEach [] X.env))) _ _ s;refine Calls.spliced_cons ?_;refine Call_ (z_7 I hg hm boot_range (PyProof.Rows.callWith_type1 (thn (ha pos' zc s σ H _ I (tDa.seq g0 s0 o (P:=fun vs H1=>∃i j G1,Same G1 H1∧vs= [.int i, .int j]∧(i.natAbs < 4611686018427387904∧j.natAbs < 4611686018427387904)∧(j - i).toNat≤16777216∧Out X.K (EX σ) G1 H1 (.ok (.ow (.lst (b_5 i (j - i).toNat)))) Q) fun ds vs G' H' _ st r o'=> ?_)) fun us s1 ⟨vs,H1,I1,r1,q1⟩=> ?_) (by rw [hs,hs3]) (by rw [hs3];rfl)))
 ·refine ak_1 r (fun i j e1 e2=> ?_) fun n=> ?_
  ·subst e1 e2
   by_cases hj:i.natAbs < 4611686018427387904∧j.natAbs < 4611686018427387904
   ·rw [show rng2 [.int i, .int j]= .ok (b_5 i (j - i).toNat) from if_pos hj] at o';simp only [R.bind_ok,l_9] at o'
    split at o'
    ·rename_i hl;exact⟨i,j,G',st.gh,rfl,hj,hl,o'⟩
    ·exact o'.elim
   ·rw [show rng2 [.int i, .int j]= .no from if_neg hj] at o';exact o'.elim
  ·have e:rng2 ds= .no:=by
    unfold rng2
    split
    ·rename_i i j _;exact absurd rfl (n i j)
    ·rfl
   rw [e] at o';exact o'.elim
 ·obtain⟨i,j,G1,sg,rfl,⟨h1,h2⟩,hl,o'⟩:=q1;cases r1 with
  |cons r rr=>
   cases rr with
   |cons r' rr=>
    cases rr;obtain⟨t,rfl⟩:=r;obtain⟨t',rfl⟩:=r';refine call_range_2 ?_;refine Calls.spliced_nil ?_;refine bv_4 hc I1 (by omega) (by omega) (by omega) (by omega) hl ?_;exact w_7 o' sg (cp_1 i _)
end
section
variable{K:Frag}{G H:Hp}
theorem OwL.append:∀{vs us:List V} {ts rs:List Tn} {S1 S2 S:AS},OwL K G H vs ts S1→OwL K G H us rs S2→(∀b,S1 b→S2 b→False)→(∀b,S1 b→S b)→(∀b,S2 b→S b)→OwL K G H (vs ++ us) (ts ++ rs) S
 |_,_,_,_,_,_,_, .nil,r,_,_,i2=>r.mono (Same.refl _) (fun _ _ _ q=>q) i2
 |_,_,_,_,S1,S2,S, .cons (S1:=Sa) (S2:=Sb) h r dj s1 s2,q,d,i1,i2=>
  .cons (S2:=fun b=>Sb b∨S2 b) h (OwL.append r q (fun b z1 z2=>d b (s2 b z1) z2) (fun b z=> .inl z) fun b z=> .inr z) (fun b z1 z2=>by
   rcases z2 with z2|z2
   ·exact dj b z1 z2
   ·exact d b (s1 b z1) z2) (fun b z=>i1 b (s1 b z)) fun b z=>by
   rcases z with z|z
   ·exact i1 b (s2 b z)
   ·exact i2 b z
end
section
variable{α:Type}
def repA:List (Key×α)→Key→α→List (Key×α)
 | [],_,_=> []
 |(x,v)::r,k,v'=>if x=k then(x,v')::r else(x,v)::repA r k v'
theorem ap_2:∀(l:List (Key×α)) (k:Key) (v:α),(repA l k v).map (·.1)=l.map (·.1)
 | [],_,_=>rfl
 |(x,v0)::r,k,v=>by
  unfold repA
  split
  ·rfl
  ·rw [List.map_cons,List.map_cons,ap_2 r k v]
end
def unS:List (Key×Tn)→Option (List (Key×D))
 | []=>some []
 |(k, .sh d)::r=>(unS r).map ((k,d):: ·)
 |_=>none
theorem ay_4:∀{zk:List (Key×Tn)} {kds:List (Key×D)},unS zk=some kds→zk=kds.map fun p=>(p.1,Tn.sh p.2)
 | [],_,e=>by cases e;rfl
 |(k,t)::r,kds,e=>by
  cases t with
  |sh d=>
   simp only [unS] at e;cases q:unS r with
   |none=>rw [q] at e;cases e
   |some l=>
    rw [q] at e;cases e;rw [ay_4 q];rfl
  |_=>cases e
theorem cd_7:∀kds:List (Key×D),unS (kds.map fun p=>(p.1,Tn.sh p.2))=some kds
 | []=>rfl
 |(k,d)::r=>by
  show(unS (r.map fun p=>(p.1,Tn.sh p.2))).map ((k,d):: ·)=_;rw [cd_7 r];rfl
section
variable{K:Frag}{G H:Hp}
theorem OwL.focusK(k:Key):∀{kvs:List (Key×V)} {zk:List (Key×Tn)} {S:AS} {t:Tn},kvs.map (·.1)=zk.map (·.1)→OwL K G H (kvs.map (·.2)) (zk.map (·.2)) S→r_1 zk k=some t→
  ∃v S1,u_8 kvs k=some v∧Ow K G H v t S1∧(∀b,S1 b→S b)∧
   ∀{H':Hp} {t':Tn},(∀b o,S b→¬S1 b→H b=some o→H' b=some o)→Ow K G H' v t' S1→OwL K G H' (kvs.map (·.2)) ((repA zk k t').map (·.2)) S
 | [], [],_,_,_,_,e=>by cases e
 | [],_::_,_,_,e,_,_=>by simp at e
 |_::_, [],_,_,e,_,_=>by simp at e
 |(x,v)::kvs,(y,t0)::zk,S,t,e,r,h=>by
  simp only [List.map_cons,List.cons.injEq] at e;obtain⟨e1,e2⟩:=e;subst e1;cases r with
  |cons hh r dj s1 s2=>
   rename_i S1 S2
   by_cases q:x=k
   ·have a2:r_1 ((x,t0)::zk) k=some t0:=by unfold r_1;rw [List.find?_cons_of_pos (by simpa using q)];rfl
    rw [a2] at h;cases h;refine⟨v,S1,ac_2 q,hh,s1,fun{H' t'} f h'=> ?_⟩;unfold repA;rw [if_pos q];exact .cons h' (r.mono (Same.refl _) (fun b o hb z=>f b o (s2 b hb) (fun w=>dj b w hb) z) fun _ z=>z) dj s1 s2
   ·have a2:r_1 ((x,t0)::zk) k=r_1 zk k:=by unfold r_1;rw [List.find?_cons_of_neg (by simpa using q)]
    rw [a2] at h;obtain⟨v',S',e1,h',i',f'⟩:=OwL.focusK k e2 r h;refine⟨v',S',by rw [ac_3 q];exact e1,h',fun b z=>s2 b (i' b z),fun{H' t'} f h2=> ?_⟩;unfold repA;rw [if_neg q];exact .cons (hh.mono (Same.refl _) (fun b o hb z=>f b o (s1 b hb) (fun w=>dj b hb (i' b w)) z) fun _ z=>z) (f' (fun b o hb nb z=>f b o (s2 b hb) nb z) h2) dj s1 s2
end
def Sl.tree:Sl→Option (Tn×Bool)
 | .ow d=>some (Tn.of d,false)
 | .tr t=>some (t,false)
 | .lt t=>some (t,true)
 |_=>none
def Sl.mk(b:Bool)(t:Tn):Sl:=if b then .lt t else .tr t
theorem Sl.tree_own{s:Sl}{t:Tn}{b:Bool}(e:s.tree=some (t,b)):s.own=some t:=by
 cases s <;> first|(cases e;rfl)|cases e
theorem Sl.mk_own(b:Bool)(t:Tn):(Sl.mk b t).own=some t:=by cases b <;> rfl
theorem Sl.mk_lk(b:Bool)(t:Tn):∀d,Sl.mk b t≠ .lk d:=by intro d;cases b <;> (intro z;cases z)
theorem Ev.mk_lt{H0:HB}{G0 G H:Hp}{σ:Sg}{Δ:SE}{O:OS}(E:Ev K H0 G0 G H σ Δ O){i:Nat}{s:Sl}{t:Tn}{b:Bool}(e:Δ[i]? =some s)(q:s.tree=some (t,b))(t':Tn):∀d,Sl.mk b t'= .lt d→σ[i]? =some (some (.ref (H0.b i))):=by
 intro d z;cases b with
 |false=>cases z
 |true=>
  cases s with
  |lt t0=>exact E.lt i t0 e
  |_=>cases q
theorem Ev.writeIn{H0:HB}{G0 G H:Hp}{σ:Sg}{Δ:SE}{O:OS}(E:Ev K H0 G0 G H σ Δ O){i:Nat}{s:Sl}{t t':Tn}{b:Bool}{a:Addr}{o:HO}(e:Δ[i]? =some s)(q:s.tree=some (t,b))(s1:σ[i]? =some (some v))(m:O i a)(t1:Ow K G (upd H a o) v t' (O i)):
  Ev K H0 G0 G (upd H a o) σ (Δ.set i (Sl.mk b t')) (setA O i (O i)):=
 have ms:=MStep.write E.st.gh m (E.out i a m).1 o
 E.step2 (Sl.mk_own b t') (Sl.mk_lk b t') (E.mk_lt e q t') ms.weak s1 (fun b hb=>⟨.inl hb,(E.out i b hb).1,ms.al b (E.out i b hb).2.2⟩) t1
theorem Ow.dic_of{G H:Hp}{zk:List (Key×Tn)}{S:AS}(t:Ow K G H v (.dic zk) S):∃a kvs S1,v= .ref a∧S a∧H a=some (.dK kvs)∧kvs.map (·.1)=zk.map (·.1)∧(∀b,S1 b→S b∧b≠a)∧OwL K G H (kvs.map (·.2)) (zk.map (·.2)) S1:=by
 cases t with
 |dic h hk ha sub r=>exact⟨_,_,_,rfl,ha,h,hk,sub,r⟩
section
variable{X:Cx}{EX:EXS}{pos:Pos}
def bh_4(i:Nat)(f1 f2 fe:FE):FS:=fun Δ=>match(Δ[i]?).bind Sl.tree with
 |some (.dic zk,lk)=>(match fe (vsh Δ) with
  | .ok w=>(match f1 (vall Δ) with
   | .ok z1=>(match keyD z1.d with
    |some k1=>(match r_1 zk k1 with
     |some (.dic kt2)=>(match unS kt2 with
      |some kds=>(match f2 (vall Δ) with
       | .ok z2=>(match keyD z2.d with
        |some k2=>if kds.length < 16777216 then .nx (Δ.set i (Sl.mk lk (.dic (repA zk k1 (Tn.of (.dic (putA kds k2 w.d))))))) else .no
        |none=> .no)
       |_=> .no)
      |none=> .no)
     |_=> .no)
    |none=> .no)
   |_=> .no)
  |_=> .no)
 |_=> .no
theorem di_4{i:Nat}{x:Str}{e e1 e2:Expr}{fe f1 f2:FE}{p1 p2 zg pos:Pos}(hu:X.A.units + 64 < cLine)(he:ED X EX e fe)(h1:ED X EX e1 f1)(h2:ED X EX e2 f2)(hN:X.N[i]? =some x:=by rfl)(hv:Vis X.env.scope x:=by first|exact Or.inl rfl|exact Or.inr (Or.inl rfl)|exact Or.inr (Or.inr rfl))(hd:(x ==("__debug__" :Str))=false:=by decide)
  (hcd:(x ==("__classdict__" :Str))=false:=by decide) (hn1:NoSl e1:=by intro _ _;rfl) (hs:swapsWith e (some (.Subscript (.Subscript (.Name x p1) e1 p2) e2 zg)) pos.line X.env=pure false:=by rfl):
  SD X EX (.Assign [.Subscript (.Subscript (.Name x p1) e1 p2) e2 zg] e pos) (bh_4 i f1 f2 fe):=
 PS.imp (bl_6 (by omega) (bl_5 (by omega) (h_4 hN hv hd hcd) h1 hn1) h2 he hs) fun D σ H ⟨H0,G0,G,Δ,O,E,q⟩=>by
  unfold bh_4 at q
  split at q
  ·rename_i zk lk e0;obtain⟨s,e1,etr⟩:=Option.bind_eq_some_iff.mp e0;obtain⟨v0,s1,t⟩:=E.ow i _ _ e1 (Sl.tree_own etr);obtain⟨a,kvs,S1,rfl,m,hH,hk,sub,rl⟩:=t.dic_of;refine⟨G,vsh Δ,E.st.gh,E.gsh, ?_⟩;cases e2:fe (vsh Δ) with
   |ex x=>simp only [e2] at q;exact q.elim
   |no=>simp only [e2] at q;exact q.elim
   |ok w=>
    simp only [e2] at q;refine WP.intro fun v G' H' st r=> ?_;have E2:=E.grow st;refine⟨.ref a,s1,u_9 G' H' O,vall Δ,E2.aH,E2.gall, ?_⟩;cases e3:f1 (vall Δ) with
    |ex x=>simp only [e3] at q;exact q.elim
    |no=>simp only [e3] at q;exact q.elim
    |ok z1=>
     simp only [e3] at q;refine WP.intro fun v1 G1 H1 st1 r1=> ?_
     split at q
     ·rename_i k1 ek1
      split at q
      ·rename_i kt2 ev
       split at q
       ·rename_i kds eu;have hv1:=aa_0 r1 ek1;subst hv1;have E3:=E2.keep st1.hh;obtain⟨vb,s1',t3⟩:=E3.ow i _ _ e1 (Sl.tree_own etr);obtain⟨a',bz,S1',ea,m',hH',hk',az,rl'⟩:=t3.dic_of;rw [s1] at s1';cases s1';cases ea;obtain⟨vc,Sc,ec,tc,ic,fc⟩:=OwL.focusK k1 hk' rl' ev;have tc':=tc;rw [ay_4 eu] at tc';obtain⟨c,kvc,rfl,mc,hHc,hkc,rlc⟩:=Ow.dict_of (kds:=kds) tc';refine⟨a, .ref c,rfl, ?_, ?_⟩
        ·exact Or.inl ⟨bz,k1, .inl hH',rfl,ec.symm⟩
        refine⟨u_9 G' H1 O,vall Δ,E3.aH,E3.gall, ?_⟩;cases e4:f2 (vall Δ) with
        |ex x=>simp only [e4] at q;exact q.elim
        |no=>simp only [e4] at q;exact q.elim
        |ok z2=>
         simp only [e4] at q;refine WP.intro fun v2 G2 H2 st2 r2=> ?_
         split at q
         ·rename_i k2 ek2
          split at q
          ·rename_i hl;have hv2:=aa_0 r2 ek2;subst hv2;have E4:=E3.keep st2.hh;have bo:H2 c=some (.dK kvc):=st2.hh _ _ hHc;have hle:kvc.length=kds.length:=by
            have:=congrArg List.length hkc
            rwa [List.length_map,List.length_map] at this
           obtain⟨p1,p2⟩:=cj_1 k2 hkc rlc r;have hca:c≠a:=(az c (ic c mc)).2;refine⟨c,_,rfl,DPut.k bo (by rw [hle,sizeLine_eq];exact hl),q σ G' _ _ (E4.writeIn e1 etr s1 (az c (ic c mc)).1 ?_) st.gg⟩;refine Ow.dic (S1:=S1') (by rw [b_0 (Ne.symm hca)];exact st2.hh _ _ hH') (by rw [ap_2];exact hk') m' az ?_;refine fc (fun b o hb nb z=> ?_) (Ow.dict b_3 p1 mc p2);rw [b_0 (show b≠c from fun w=>nb (by rw [w];exact mc))];exact st2.hh _ _ z
          ·exact q.elim
         ·exact q.elim
       ·exact q.elim
      ·exact q.elim
     ·exact q.elim
  ·exact q.elim
end
theorem bv_5{G:Hp}(k:Key):∀{kvs:List (Key×V)} {kds:List (Key×D)},kvs.map (·.1)=kds.map (·.1)→HasL K G (kvs.map (·.2)) (kds.map (·.2))→(q_2 kvs k).map (·.1)=(ac_6 kds k).map (·.1)∧HasL K G ((q_2 kvs k).map (·.2)) ((ac_6 kds k).map (·.2))
 | [], [],_,_=>⟨rfl, .nil⟩
 | [],_::_,e,_=>by simp at e
 |_::_, [],e,_=>by simp at e
 |(x,v)::kvs,(y,d)::kds,e,r=>by
  simp only [List.map_cons,List.cons.injEq] at e;obtain⟨e1,e2⟩:=e;subst e1;cases r with
  |cons h r=>
   obtain⟨i1,i2⟩:=bv_5 k (kvs:=kvs) (kds:=kds) e2 r
   by_cases q:x=k
   ·have a1:q_2 ((x,v)::kvs) k=q_2 kvs k:=co_2 q;have a2:ac_6 ((x,d)::kds) k=ac_6 kds k:=by unfold ac_6;rw [List.filter_cons_of_neg (by simpa using q)]
    rw [a1,a2];exact⟨i1,i2⟩
   ·have a1:q_2 ((x,v)::kvs) k=(x,v)::q_2 kvs k:=bg_4 q;have a2:ac_6 ((x,d)::kds) k=(x,d)::ac_6 kds k:=by unfold ac_6;rw [List.filter_cons_of_pos (by simpa using q)]
    rw [a1,a2];exact⟨by rw [List.map_cons,List.map_cons,i1], .cons h i2⟩
section
variable{X:Cx}{EX:EXS}{pos:Pos}
def cj_3(i:Nat)(f1 f2:FE):FS:=fun Δ=>match(Δ[i]?).bind Sl.tree with
 |some (.dic zk,lk)=>(match f1 (vall Δ) with
   | .ok z1=>(match keyD z1.d with
    |some k1=>(match r_1 zk k1 with
     |some (.dic kt2)=>(match unS kt2 with
      |some kds=>(match f2 (vall Δ) with
       | .ok z2=>(match keyD z2.d with
        |some k2=> .nx (Δ.set i (Sl.mk lk (.dic (repA zk k1 (Tn.of (.dic (ac_6 kds k2)))))))
        |none=> .no)
       |_=> .no)
      |none=> .no)
     |_=> .no)
    |none=> .no)
   |_=> .no)
 |_=> .no
theorem di_5{i:Nat}{x:Str}{e1 e2:Expr}{f1 f2:FE}{j:Nat}{p1 p2 p3 zf zd pos:Pos}(hu:X.A.units + 64 < cLine)(h1:ED X EX e1 f1)(h2:ED X EX e2 f2)(hN:X.N[i]? =some x:=by rfl)(hv:Vis X.env.scope x:=by first|exact Or.inl rfl|exact Or.inr (Or.inl rfl)|exact Or.inr (Or.inr rfl))(hd:(x ==("__debug__" :Str))=false:=by decide)
  (hcd:(x ==("__classdict__" :Str))=false:=by decide) (hn1:NoSl e1:=by intro _ _;rfl) (hm:M2 X (.Subscript (.Name x p1) e1 p2) "pop" zf e2 (.Constant .none j p3) zd:=by exact⟨rfl,rfl,rfl,rfl⟩)
  (hs:swapsWith (.Call (.Attribute (.Subscript (.Name x p1) e1 p2) "pop" zf) [e2, .Constant .none j p3] [] zd) none pos.line X.env=pure false:=by rfl):
  SD X EX (.Expr (.Call (.Attribute (.Subscript (.Name x p1) e1 p2) "pop" zf) [e2, .Constant .none j p3] [] zd) pos) (cj_3 i f1 f2):=
 PS.imp (aj_2 (cv_8 (bl_5 (by omega) (h_4 hN hv hd hcd) h1 hn1) h2 cs_7 hm) hs) fun D σ H ⟨H0,G0,G,Δ,O,E,q⟩=>by
  unfold cj_3 at q
  split at q
  ·rename_i zk lk e0;obtain⟨s,e1,etr⟩:=Option.bind_eq_some_iff.mp e0;obtain⟨v0,s1,t⟩:=E.ow i _ _ e1 (Sl.tree_own etr);obtain⟨a,kvs,S1,rfl,m,hH,hk,sub,rl⟩:=t.dic_of;refine⟨.ref a,s1,u_9 G H O,vall Δ,E.aH,E.gall, ?_⟩;cases e3:f1 (vall Δ) with
   |ex x=>simp only [e3] at q;exact q.elim
   |no=>simp only [e3] at q;exact q.elim
   |ok z1=>
    simp only [e3] at q;refine WP.intro fun v1 G1 H1 st1 r1=> ?_
    split at q
    ·rename_i k1 ek1
     split at q
     ·rename_i kt2 ev
      split at q
      ·rename_i kds eu;have hv1:=aa_0 r1 ek1;subst hv1;have E3:=E.keep st1.hh;obtain⟨vb,s1',t3⟩:=E3.ow i _ _ e1 (Sl.tree_own etr);obtain⟨a',bz,S1',ea,m',hH',hk',az,rl'⟩:=t3.dic_of;rw [s1] at s1';cases s1';cases ea;obtain⟨vc,Sc,ec,tc,ic,fc⟩:=OwL.focusK k1 hk' rl' ev;have tc':=tc;rw [ay_4 eu] at tc';obtain⟨c,kvc,rfl,mc,hHc,hkc,rlc⟩:=Ow.dict_of (kds:=kds) tc';refine⟨a, .ref c,rfl,Or.inl ⟨bz,k1, .inl hH',rfl,ec.symm⟩,c,rfl, .inl ⟨kvc, .inl hHc⟩, ?_⟩;refine⟨u_9 G H1 O,vall Δ,E3.aH,E3.gall, ?_⟩;cases e4:f2 (vall Δ) with
       |ex x=>simp only [e4] at q;exact q.elim
       |no=>simp only [e4] at q;exact q.elim
       |ok z2=>
        simp only [e4] at q;refine WP.intro fun v2 G2 H2 st2 r2=> ?_
        split at q
        ·rename_i k2 ek2;have hv2:=aa_0 r2 ek2;subst hv2;have E4:=E3.keep st2.hh;have bo:H2 c=some (.dK kvc):=st2.hh _ _ hHc;have hca:c≠a:=(az c (ic c mc)).2;obtain⟨p1,p2⟩:=bv_5 k2 hkc rlc;have fin:∀o:HO,o= .dK (q_2 kvc k2)→D.nx σ (upd H2 c o):=fun o eo=>by
          subst eo;refine q σ G _ _ (E4.writeIn e1 etr s1 (az c (ic c mc)).1 ?_) (Same.refl _);refine Ow.dic (S1:=S1') (by rw [b_0 (Ne.symm hca)];exact st2.hh _ _ hH') (by rw [ap_2];exact hk') m' az ?_;refine fc (fun b o hb nb z=> ?_) (Ow.dict b_3 p1 mc p2);rw [b_0 (show b≠c from fun w=>nb (by rw [w];exact mc))];exact st2.hh _ _ z
         refine⟨kvc,k2,bo,rfl,fun v _=>fin _ rfl,fun en=> ?_⟩;have:H2=upd H2 c (.dK (q_2 kvc k2)):=by
          rw [bu_0 (cv_9 en)]
          funext b
          by_cases z:b=c
          ·rw [z,b_3,bo]
          ·rw [b_0 z]
         show D.nx σ H2;rw [this];exact fin _ rfl
        ·exact q.elim
      ·exact q.elim
     ·exact q.elim
    ·exact q.elim
  ·exact q.elim
def bh_5(i:Nat)(f1:FE):FS:=fun Δ=>match(Δ[i]?).bind Sl.tree with
 |some (.dic zk,lk)=>(match f1 (vall Δ) with
   | .ok z1=>(match keyD z1.d with
    |some k1=>if(r_1 zk k1).isSome then .no else if zk.length < 16777216 then .nx (Δ.set i (Sl.mk lk (.dic (zk ++ [(k1, .dic [])])))) else .no
    |none=> .no)
   |_=> .no)
 |_=> .no
theorem di_6{i:Nat}{x:Str}{e1:Expr}{f1:FE}{p1 p2 zg pos:Pos}(hu:X.A.units + 64 < cLine)(h1:ED X EX e1 f1)(hN:X.N[i]? =some x:=by rfl)(hv:Vis X.env.scope x:=by first|exact Or.inl rfl|exact Or.inr (Or.inl rfl)|exact Or.inr (Or.inr rfl))(hd:(x ==("__debug__" :Str))=false:=by decide)
  (hcd:(x ==("__classdict__" :Str))=false:=by decide) (hs:swapsWith (.Dict [] [] p2) (some (.Subscript (.Name x p1) e1 zg)) pos.line X.env=pure false:=by rfl):
  SD X EX (.Assign [.Subscript (.Name x p1) e1 zg] (.Dict [] [] p2) pos) (bh_5 i f1):=
 PS.imp (bl_6 (by omega) (h_4 hN hv hd hcd) h1 bt_9 hs) fun D σ H ⟨H0,G0,G,Δ,O,E,q⟩=>by
  unfold bh_5 at q
  split at q
  ·rename_i zk lk e0;obtain⟨s,e1,etr⟩:=Option.bind_eq_some_iff.mp e0;intro p hp;have E1:=E.keep (l_1 hp (.dK []));obtain⟨v0,s1,t⟩:=E1.ow i _ _ e1 (Sl.tree_own etr);obtain⟨a,kvs,S1,rfl,m,hH,hk,sub,rl⟩:=t.dic_of;refine⟨.ref a,s1,u_9 G (upd H p (.dK [])) O,vall Δ,E1.aH,E1.gall, ?_⟩;cases e3:f1 (vall Δ) with
   |ex x=>simp only [e3] at q;exact q.elim
   |no=>simp only [e3] at q;exact q.elim
   |ok z1=>
    simp only [e3] at q;refine WP.intro fun v1 G1 H1 st1 r1=> ?_
    split at q
    ·rename_i k1 ek1
     split at q
     ·exact q.elim
     ·rename_i hno
      split at q
      ·rename_i hl;have hv1:=aa_0 r1 ek1;subst hv1;have E3:=E1.keep st1.hh;have hH1:H1 a=some (.dK kvs):=st1.hh _ _ hH;have hp1:H1 p=some (.dK []):=st1.hh _ _ b_3;have hle:kvs.length=zk.length:=by
        have:=congrArg List.length hk
        rwa [List.length_map,List.length_map] at this
       have npO:∀j b,O j b→b≠p:=fun j b hb z=>(E.out j b hb).2.2 (by rw [z];exact hp);have hap:a≠p:=npO i a m;refine⟨a,_,rfl,DPut.k hH1 (by rw [hle,sizeLine_eq];exact hl), ?_⟩;have gj:(kvs.any fun kv=>decide (kv.1=k1))=false:=by
        rw [ay_2 k1 hk];cases h:zk.any fun kv=>decide (kv.1=k1) with
        |false=>rfl
        |true=>
         exfalso;apply hno;unfold r_1;rw [Option.isSome_map,List.find?_isSome];exact List.any_eq_true.mp h
       have du:putK kvs k1 (.ref p)=kvs ++ [(k1, .ref p)]:=by
        rw [cj_0];unfold putA;rw [gj];rfl
       rw [du];have Gp:G p=none:=E.st.gh.free hp;have old:∀b o,H b=some o→H1 b=some o:=fun b o z=>st1.hh _ _ (l_1 hp _ b o z);have ms:MStep2 (O i) G H G (upd H1 a (.dK (kvs ++ [(k1, .ref p)]))):=⟨fun b o nb z=>by rw [b_0 (fun w=>nb (by rw [w];exact m))];exact old b o z,fun b o z=>by
        have:b≠a:=fun w=>by rw [w,(E.out i a m).1] at z;cases z
        rw [b_0 this];exact old b o (E.st.gh b o z),Same.refl _,fun b _ z _=>z⟩
       refine q σ G _ _ (E.step2 (S:=fun b=>O i b∨b=p) (Sl.mk_own lk _) (Sl.mk_lk lk _) (E.mk_lt e1 etr _) ms s1 (fun b hb=> ?_) ?_) (Same.refl _)
       ·rcases hb with hb|hb
        ·refine⟨.inl hb,(E.out i b hb).1, ?_⟩
         by_cases w:b=a
         ·rw [w,b_3];simp
         ·rw [b_0 w];cases e:H b with
          |none=>exact absurd e (E.out i b hb).2.2
          |some o=>rw [old b o e];simp
        ·subst hb;exact⟨.inr hp,Gp,by rw [b_0 (Ne.symm hap),hp1];simp⟩
       ·refine Ow.dic (S1:=fun b=>S1 b∨b=p) b_3 (by rw [List.map_append,List.map_append,hk];rfl) (.inl m) (fun b hb=> ?_) ?_
        ·rcases hb with hb|hb
         ·exact⟨.inl (sub b hb).1,(sub b hb).2⟩
         ·subst hb;exact⟨.inr rfl,Ne.symm hap⟩
        ·rw [List.map_append,List.map_append];refine OwL.append (S2:=fun b=>b=p) (rl.mono (Same.refl _) (fun b o hb z=> ?_) fun _ z=>z) (.cons (S1:=fun b=>b=p) (S2:=fun _=>False) (.dic (S1:=fun _=>False) (by rw [b_0 (Ne.symm hap)];exact hp1) rfl rfl (fun _ z=>z.elim) .nil) .nil (fun _ _ z=>z) (fun _ z=>z) fun _ z=>z.elim) (fun b z1 z2=>npO i b (sub b z1).1 z2) (fun b z=> .inl z) fun b z=> .inr z;rw [b_0 (sub b hb).2];exact st1.hh _ _ z
      ·exact q.elim
    ·exact q.elim
  ·exact q.elim
end
def kD:Key→D
 | .inl i=> .int i
 | .inr x=> .str x
theorem dt_2{G:Hp}(k:Key):Has K G (kV k) (kD k):=by cases k <;> constructor
theorem cj_4{G:Hp}:∀ks:List Key,HasL K G (ks.map kV) (ks.map kD)
 | []=> .nil
 |k::ks=> .cons (dt_2 k) (cj_4 ks)
theorem cx_8{w:World}{k:Key}{u:Value}(h:(g_5 P w).is k u=true):RelV (kV k) u:=by
 rcases g_9 h with⟨i,t,rfl,rfl⟩|⟨x,t,rfl,rfl⟩
 ·exact⟨t,rfl⟩
 ·exact⟨t,rfl⟩
theorem bh_6{w:World}:∀{kvs:List (Key×V)} {vs:List (Key×Value)} {us:List Value},KV kvs vs→us.length=vs.length→(∀(j:Nat) v,us[j]? =some v→∃k x,vs[j]? =some (k,x)∧(g_5 P w).is k v=true)→Vals ((kvs.map (·.1)).map kV) us
 | [],vs,us,r,hl,_=>by
  have:=r.length;simp at this;have:us= []:=List.eq_nil_of_length_eq_zero (by omega);subst this;exact .nil
 |(k,v)::kvs,vs,us,r,hl,h=>by
  cases r with
  |cons h1 r=>
   rename_i q vs;obtain⟨k',x⟩:=q;cases us with
   |nil=>simp at hl
   |cons u us=>
    obtain⟨k2,x2,e,i⟩:=h 0 u rfl;have e:(k',x)=(k2,x2):=by simpa using e
    cases e;have e1:k=k':=h1.1;subst e1;exact .cons (cx_8 i) (bh_6 r (by simpa using hl) fun j v e=>by
     obtain⟨a,b,c,d⟩:=h (j + 1) v (by simpa using e);exact⟨a,b,by simpa using c,d⟩)
section
variable{X:Cx}{EX:EXS}{pos:Pos}
def cj_5:List D→R W
 | [.dic kvs]=> .ok (.ow (.lst (kvs.map fun p=>kD p.1)))
 |_=> .no
theorem cd_8(hc:X.calm=true):y_4 X (.type "list") cj_5:=by
 intro zc s σ H vs us Q I rv q;obtain⟨EX,G,ds,g,r,o⟩:=q;cases r with
 |nil=>exact False.elim o
 |cons h t=>
  cases t with
  |cons _ _=>cases h <;> exact False.elim o
  |nil=>
   cases h with
   |dic h hk r=>
    rename_i kvs kds;obtain⟨u,rfl,ru⟩:=rv.one;cases ru;obtain⟨z,lo,ws,kv,dd⟩:=aj_9 I.hok (Same.rdD g h);obtain⟨ep,da⟩:=dd.dictAt;refine kdl_call (kdl_dict lo) (I.ok.hd hc) da (by rw [←kv.length];exact z) fun h' tk zm c kk hat it=> ?_;have rv':Vals ((kvs.map (·.1)).map kV) zm.toList:=bh_6 kv (by rw [Array.length_toList];exact it.1) fun j v e=>it.2 j v (by rw [←Array.getElem?_toList];exact e);have fr:=I.hok.fresh (Nat.le_refl _);refine⟨.ref _,upd H _ (.lst _),I.laid (t':=tk) kk (Nat.le_refl _) ⟨?_,zm.toList,c,rv',by simpa using hat⟩,rfl, ?_⟩
    ·rw [List.length_map,List.length_map];exact z
    ·have e:(kds.map fun p=>kD p.1)=(kvs.map (·.1)).map kD:=by rw [hk,List.map_map];rfl
     have o':Out X.K EX G H (.ok (.ow (.lst ((kvs.map (·.1)).map kD)))) Q:=by rw [←e];exact o
     exact w_7 o' g (cj_4 _) _ fr
   |_=>exact False.elim o
def minK:List D→R W
 | [.dic kvs]=>(match kvs with
  | [(.inl i,_)]=> .ok (.sh (.int i))
  |_=> .no)
 |_=> .no
theorem cp_4(hc:X.calm=true):y_4 X (.builtin "min") minK:=by
 intro zc s σ H vs us Q I rv q;obtain⟨EX,G,ds,g,r,o⟩:=q;cases r with
 |nil=>exact False.elim o
 |cons h t=>
  cases t with
  |cons _ _=>cases h <;> exact False.elim o
  |nil=>
   cases h with
   |dic h hk r=>
    rename_i kvs kds;cases kds with
    |nil=>exact False.elim o
    |cons p kds=>
     obtain⟨k,d⟩:=p;cases k with
     |inr x=>exact False.elim o
     |inl i=>
      cases kds with
      |cons _ _=>exact False.elim o
      |nil=>
       obtain⟨u,rfl,ru⟩:=rv.one;cases ru;obtain⟨z,lo,ws,kv,dd⟩:=aj_9 I.hok (Same.rdD g h);obtain⟨ep,da⟩:=dd.dictAt;have hws:∃x,ws= [(.inl i,x)]:=by
        have e1:=kv.keys;rw [hk] at e1;cases ws with
        |nil=>simp at e1
        |cons q ws=>
         cases ws with
         |cons _ _=>simp at e1
         |nil=>
          obtain⟨k',x⟩:=q;have:(.inl i:Key)=k':=by simpa using e1
          subst this;exact⟨x,rfl⟩
       obtain⟨x,rfl⟩:=hws;obtain⟨oI,St,hit,W,st⟩:=(kdl_dict (knd:=g_5 X.prog X.w) lo).iter X.A.in1 s (I.ok.hd hc) da;refine call_min_walk (hit _ _ ⟨_,_,_,_,_,_,fun a b=>decide ((fun _=>i) a < (fun _=>i) b),rfl,W,st,fun b hb=> ?_,Nat.zero_lt_one,CmpOf.ints_lt (fun _=>i) (fun j v hj=> ?_),fun v h' tk hP hk'=> ?_⟩)
       ·show b < (s.heap.push oI).objs.size;rw [Heap.size_push];rcases List.mem_cons.mp hb with e|hb
        ·rw [e];exact Nat.lt_succ_self _
        ·rw [List.mem_singleton.mp hb];exact Nat.lt_succ_of_lt da.lt_size
       ·obtain⟨k,y,e1,e2⟩:=hj;cases j with
        |zero=>
         cases e1;exact cx_8 e2
        |succ j=>simp at e1
       ·obtain⟨k,y,e1,e2⟩:=hP;have e1:((.inl i,x):Key×Value)=(k,y):=by simpa [argBest] using e1
        cases e1;obtain⟨t,rfl⟩:=cx_8 e2;have old:∀b o,s.heap.get? b=some o→h'.get? b=some o:=fun b o e=>
         hk' b o (fun hm=>absurd (Heap.lt_size e) (by rw [List.mem_singleton.mp hm];exact Nat.lt_irrefl _)) (Heap.get?_push_of_some _ e)
        exact⟨.int i,H,I.kept (t':=tk) old,⟨t,rfl⟩,d_7 o g (.int _)⟩
   |_=>exact False.elim o
end
theorem cd_9(l b:Addr)(xs ys:Array Value)(n m:Nat)(dd:Option Addr)(sl:Array (Option Value))(h0:¬(!xs.isEmpty && Builtin.List.listTooLong (xs.size + ys.size))=true)(h1:xs.size≤sizeLine)(h2:xs.size + ys.size≤sizeLine + 1):
  Meets (Builtin.«list.extend» ⟨[.ref l, .ref b], []⟩) (fun _ R s=>s.heap.get? l=some {cls:= .type "list",data:= .seq xs n}∧s.heap.get? b=some ⟨.type "tuple",dd, .seq ys m,sl⟩∧
   R (.ok (.ret Value.none)) {s with heap:=s.heap.update l (Obj.mapSeq fun z=>z ++ ys),toks:=s.toks}):=
 .of_wp fun prog w A R s h=>by
  obtain⟨hp,g,d,tk,os⟩:=s;obtain⟨ha,hc,h⟩:=h;have g1:=AutoSeq1.idx_int;have g2:=AutoSeq1.sub_tuple_tuple;have g3:=AutoSeq1.sub_list_list;have g4:=AutoSeq1.sub_tuple_list;have g5:=AutoSeq1.sub_list_tuple;have hz:(xs ++ ys).size≤sizeLine + 1:=by rw [Array.size_append];exact h2
  wp_walk using(wpAny_updateSeq ha rfl (hz:=h1) (_hz':=hz)),wpAny_loadPart' ha,wpAny_loadPart' hc
  exact⟨_,rfl,h⟩
section
variable{X:Cx}{EX:EXS}{pos:Pos}
def dy_9(K:Frag):V→List V→Hp→VK→Prop:=fun x vs H Q=>∃l b xs zs,x= .ref l∧vs= [.ref b]∧H l=some (.lst xs)∧SqT K H b zs∧xs.length + zs.length≤sizeLine∧Q .non (upd H l (.lst (xs ++ zs)))
theorem di_7:MtM X "list.extend" (dy_9 X.K):=by
 intro zc s σ H x vs v us Q I rx rv h;obtain⟨l,b,xs,zs,rfl,rfl,hH,hB,hz,q⟩:=h;cases rx;obtain⟨u,rfl,ru⟩:=rv.one;cases ru;obtain⟨z,its,n,r,hl,e⟩:=I.lstM hH;obtain⟨its2,r2,⟨o,e2,c2,n2,dat⟩,z2⟩:=I.tuple hB;have hl2:=r2.length;obtain⟨cls,dd,data,sl⟩:=o;simp only at c2 dat;subst c2 dat;have hsz:its.toArray.size + its2.toArray.size≤sizeLine:=by rw [List.size_toArray,List.size_toArray];omega
 have ax:¬(!its.toArray.isEmpty && Builtin.List.listTooLong (its.toArray.size + its2.toArray.size))=true:=by
  rw [bt_5 hsz,Bool.and_false];simp
 refine call_meets PySem.F.slot_list_extend ⟨_,e,rfl⟩ PySem.F.entry_list_extend (PySem.F.args_list_extend_2 _ _) (cd_9 l b its.toArray its2.toArray n n2 dd sl ax (by rw [List.size_toArray];omega) (by omega)) ⟨e,e2, ?_⟩;refine⟨.non,_,I.lset (its':=its ++ its2) hH e (by simp) (r.append r2) ?_,rfl,q⟩;rw [List.length_append];omega
def sExt(i:Nat)(f:FE):FS:=fun Δ=>match Δ[i]? with
 |some (.ow (.lst ds))=>(match f (vsh Δ) with
  | .ok w=>(match w.d with
   | .tup es=>if ds.length + es.length≤16777216 then .nx (Δ.set i (.ow (.lst (ds ++ es)))) else .no
   |_=> .no)
  |_=> .no)
 |_=> .no
theorem dt_3{i:Nat}{x:Str}{e:Expr}{f:FE}{p1 zf zd:Pos}(he:ED X EX e f)(hN:X.N[i]? =some x:=by rfl)(hv:Vis X.env.scope x:=by first|exact Or.inl rfl|exact Or.inr (Or.inl rfl)|exact Or.inr (Or.inr rfl))(hd:(x ==("__debug__" :Str))=false:=by decide)
  (hcd:(x ==("__classdict__" :Str))=false:=by decide) (hsw:swapsWith (.Call (.Attribute (.Name x p1) "extend" zf) [e] [] zd) none pos.line X.env=pure false:=by rfl)
  (ae:attributeBase (.Name x p1) "extend" X.env (eval (.Name x p1) X.env)=eval (.Name x p1) X.env:=by rfl)
  (ay:((backTo zd (starEach [e] X.env)).all (fun x=> !x.1) && (backToKw zd (keywordEach [] X.env)).all (fun x=>x.1.isSome)
   && decide ([e].length + ([]:List Keyword).length + (if([]:List Keyword).isEmpty then 0 else 1) < 30))=true:=by rfl)
  (af:(zf.endLine ==zd.line)=true:=by rfl) (hs:starEach [e] X.env=(false,eval e X.env)::starEach [] X.env:=by rfl) (aa:(backTo zd (starEach [] X.env)).any (·.1)=false:=by rfl):
  SD X EX (.Expr (.Call (.Attribute (.Name x p1) "extend" zf) [e] [] zd) pos) (sExt i f):=
 PS.imp (aj_2 (cu_5 PySem.F.plainAttrs_list PySem.F.slot_list_extend PySem.F.type_list_extend di_7 (h_4 hN hv hd hcd) (k_6 he x_6 hs) ae ay af hs aa) hsw) fun D σ H ⟨H0,G0,G,Δ,O,E,q⟩=>by
  unfold sExt at q
  split at q
  ·rename_i ds e1;obtain⟨v0,s1,t⟩:=E.ow i _ _ e1 rfl;obtain⟨a,vs,rfl,m,hH,rl⟩:=t.list_of;refine⟨.ref a,s1, .inl ⟨rfl,_,SqL.of hH⟩,G,vsh Δ,E.st.gh,E.gsh, ?_⟩;cases e2:f (vsh Δ) with
   |ex x=>simp only [e2] at q;exact q.elim
   |no=>simp only [e2] at q;exact q.elim
   |ok w=>
    simp only [e2] at q;refine WP.intro fun v G' H' st r=> ?_;revert q r;cases w.d with
    |tup es=>
     intro q r;simp only at q
     split at q
     ·rename_i hz;cases r with
      |tup h r=>exact⟨a,_,vs,_,rfl,rfl,st.hh _ _ hH,Same.tupS st.gh h,by rw [rl.length,r.length,sizeLine_eq];exact hz,q σ G' _ _ ((E.grow st).writeL s1 m ((rl.mono st.gg).append r)) st.gg⟩
     ·exact q.elim
    |_=>intro q _;exact False.elim q
  ·exact q.elim
def bv_6(i j:Nat):FS:=fun Δ=>match Δ[j]? with
 |some (.ow (.lst ds))=>(match ds[ds.length - 1]? with
  |some d=> .nx ((Δ.set j (.ow (.lst ds.dropLast))).set i (.sh d))
  |none=> .no)
 |_=> .no
theorem HasL.dropLast{G:Hp}{ds:List D}(h:HasL K G vs ds):HasL K G vs.dropLast ds.dropLast:=by
 rw [List.dropLast_eq_take,List.dropLast_eq_take,h.length];exact h.take _
theorem di_9{i j:Nat}{x y:Str}{p1 p2 zf zd:Pos}(hN:X.N.Nodup)(hi:X.N[i]? =some x:=by rfl)(hx:Loc X.env.scope x:=by first|exact Or.inl rfl|exact Or.inr rfl)(hj:X.N[j]? =some y:=by rfl)(hv:Vis X.env.scope y:=by first|exact Or.inl rfl|exact Or.inr (Or.inl rfl)|exact Or.inr (Or.inr rfl))(hd:(y ==("__debug__" :Str))=false:=by decide)
  (hcd:(y ==("__classdict__" :Str))=false:=by decide) (hs:swapsWith (.Call (.Attribute (.Name y p1) "pop" zf) [] [] zd) (some (.Name x p2)) pos.line X.env=pure false:=by rfl)
  (hf:X.fn x=true∨X.env.scope.names.lookup x=some .local:=by first|exact .inl rfl|exact .inr rfl|assumption)
  (ae:attributeBase (.Name y p1) "pop" X.env (eval (.Name y p1) X.env)=eval (.Name y p1) X.env:=by rfl) (af:(zf.endLine ==zd.line)=true:=by rfl):
  SD X EX (.Assign [.Name x p2] (.Call (.Attribute (.Name y p1) "pop" zf) [] [] zd) pos) (bv_6 i j):=
 PS.imp (cb_5 hN hi hx (dr_2 PySem.F.plainAttrs_list PySem.F.slot_list_pop PySem.F.type_list_pop dr_3 (h_4 hj hv hd hcd) ae af) hs hf) fun D σ H ⟨H0,G0,G,Δ,O,E,q⟩=>by
  unfold bv_6 at q
  split at q
  ·rename_i ds e1;obtain⟨v0,s1,t⟩:=E.ow j _ _ e1 rfl;obtain⟨a,vs,rfl,m,hH,rl⟩:=t.list_of
   split at q
   ·rename_i d e2;rw [←rl.length] at e2;obtain⟨v,e3,hv⟩:=rl.get e2;exact⟨.ref a,s1, .inl ⟨rfl,_,SqL.of hH⟩,a,vs,v,rfl,rfl,hH,e3,q _ G _ _ ((E.writeL s1 m rl.dropLast).put hv) (Same.refl _)⟩
   ·exact q.elim
  ·exact q.elim
theorem HasL.eraseIdx{G:Hp}:∀{vs:List V} {ds:List D} (n:Nat),HasL K G vs ds→HasL K G (vs.eraseIdx n) (ds.eraseIdx n)
 |_,_,_, .nil=> .nil
 |_,_,0, .cons _ r=>r
 |_,_,n + 1, .cons h r=> .cons h (HasL.eraseIdx n r)
def ar_4(i:Nat)(f:FE):FS:=fun Δ=>match f (vall Δ) with
 | .ok (.ow (.lst ds))=>if ds.all flatD=true then .nx (Δ.set i (.ow (.lst ds))) else .no
 |_=> .no
theorem HasL.ofFl{G G':Hp}:∀{vs:List V} {ds:List D},HasL K G vs ds→ds.all flatD=true→HasL K G' vs ds
 |_,_, .nil,_=> .nil
 |_,_, .cons h r,f=>by
  rw [List.all_cons,Bool.and_eq_true] at f;exact .cons (h.ofFl f.1) (HasL.ofFl r f.2)
theorem cj_6{i:Nat}{x:Str}{e:Expr}{f:FE}{pos':Pos}(he:ED X EX e f)(hN:X.N.Nodup)(hi:X.N[i]? =some x:=by rfl)(hx:Loc X.env.scope x:=by first|exact Or.inl rfl|exact Or.inr rfl)(hs:swapsWith e (some (.Name x pos')) pos.line X.env=pure false:=by rfl)
  (hf:X.fn x=true∨X.env.scope.names.lookup x=some .local:=by first|exact .inl rfl|exact .inr rfl|assumption):SD X EX (.Assign [.Name x pos'] e pos) (ar_4 i f):=
 PS.imp (cb_5 hN hi hx he hs hf) fun D σ H ⟨H0,G0,G,Δ,O,E,q⟩=>by
  unfold ar_4 at q;refine⟨u_9 G H O,vall Δ,E.aH,E.gall, ?_⟩
  split at q
  ·rename_i ds e1
   split at q
   ·rename_i fl;rw [e1];intro v S G' H' st fr t;obtain⟨a,vs,rfl,m,hH,rl⟩:=t.list_of;have nG:G a=none:=E.st.gh.free (fr a m).1;refine q _ G H' _ ((E.keep st.hh).putO (S:=fun b=>b=a) (fun b hb=> ?_) rfl (fun _ z=>by cases z) (Ow.list hH rfl (rl.ofFl fl)) fun j b hj hb=> ?_) (Same.refl _)
    ·subst hb;exact⟨E.st.hh.free (fr b m).1,nG,by rw [hH];simp⟩
    ·subst hb;exact(E.out j b hj).2.2 (fr b m).1
   ·exact q.elim
  ·exact q.elim
end
def bm_6(n:Nat)(ds:List D)(t:Tn):SE:=(start3 n ds).set ds.length (.lt t)
def bv_7(n:Nat)(g:FS)(ds:List D)(t:Tn):Option Tn:=match g (bm_6 n ds t) with
 | .nx Δ=>(match Δ[ds.length]? with
  |some (.lt t')=>some t'
  |_=>none)
 |_=>none
def spM(K:Frag)(n:Nat)(F:List D→Tn→Option Tn):Sp:=fun vs H Q _=>∃vs0 a0,vs=vs0 ++ [.ref a0]∧vs0.length=n∧∃G ds t S t',Same G H∧HasL K G vs0 ds∧Ow K G H (.ref a0) t S∧(∀a,S a→G a=none∧H a≠none)∧F ds t=some t'∧
 ∀G' H' S',MStep2 S G H G' H'→(∀a,S' a→(S a∨H a=none)∧G' a=none∧H' a≠none)→Ow K G' H' (.ref a0) t' S'→Q .non H'
theorem cp_5{G H h0:Hp}{vs us:List V}{ds:List D}{N:List Str}{b:Nat→Addr}(g:Same G H)(i0:Same h0 H)(r:HasL K G vs ds)(hl:(vs ++ us).length≤N.length):Ev K ⟨h0,b⟩ G G H (o_3 N (vs ++ us)) (start3 N.length ds) (fun _ _=>False):=by
 have key:∀(i:Nat) (s:Sl),(start3 N.length ds)[i]? =some s→(∃d,s= .sh d∧ds[i]? =some d)∨s= .no:=fun i s e=>by
  unfold start3 at e
  by_cases hi:i < ds.length
  ·rw [List.getElem?_append_left (by rw [List.length_map];exact hi),List.getElem?_map] at e;obtain⟨d,e1,e2⟩:=Option.map_eq_some_iff.mp e;exact .inl ⟨d,e2.symm,e1⟩
  ·rw [List.getElem?_append_right (by rw [List.length_map];omega),List.getElem?_replicate] at e
   split at e
   ·cases e;exact .inr rfl
   ·cases e
 refine⟨⟨i0,g,Same.refl _,fun _ n _=>n⟩, ?_,fun i d e=> ?_,fun i z d e zo=> ?_,fun _ _ ha=>ha.elim,fun _ _ _ ha=>ha.elim,fun i d e=> ?_,fun i d e=> ?_⟩
 ·unfold o_3 start3;have:=r.length;simp only [List.length_append,List.length_map,List.length_replicate] at hl⊢;omega
 ·rcases key i _ e with⟨d',q,q2⟩|q
  ·cases q;obtain⟨v,e1,h⟩:=r.get q2;refine⟨v, ?_,h⟩;unfold o_3;have hi:i < vs.length:=(List.getElem?_eq_some_iff.mp e1).1;rw [List.getElem?_append_left (by rw [List.length_map,List.length_append];omega),List.getElem?_map,List.getElem?_append_left hi,e1];rfl
  ·cases q
 ·rcases key i _ e with⟨d',q,_⟩|q <;> (subst q;cases zo)
 ·rcases key i _ e with⟨d',q,_⟩|q <;> cases q
 ·rcases key i _ e with⟨d',q,_⟩|q <;> cases q
open Classical in
theorem fn_M{c:Bool}{w:World}{x qual:Str}{st:Stmt}{f:Addr}{N ps:List Str}{k n:Nat}{g:FS}(F:Fun K x qual st f fd)(S:FnScope N ps (b_2 st))(hn:ps.length=n + 1)(hle:ps.length≤N.length)
  (zh:∀(zn:Value) (A:Around) (outer:List Env) (s:Shared) (H:Hp) (E:XK),RoomC c k (A.deeper (envOfC qual (b_2 st) s.heap.objs.size f zn))→
   BD (cxN c P w K mg base N qual (b_2 st) f zn A outer s H E) (fun _=>EXof K E) (e_1 st) g):FnX P w K mg base c (k + 1) f fd ps (spM K n (bv_7 N.length g)):=by
 refine Fun.okX F S (fun vs H Q E h=> ?_) fun zn A outer s H vs Q E hr h=>⟨_,zh zn A outer s H E hr, ?_⟩
 ·obtain⟨vs0,a0,rfl,hl,_⟩:=h;rw [List.length_append,hl,hn];rfl
 obtain⟨vs0,a0,rfl,hl,G,ds,t,S0,t',g0,r,tw,out,ef,q⟩:=h;have i0:Same (fun b=>if S0 b then none else H b) H:=fun b o e=>by
  simp only at e
  split at e
  ·cases e
  ·exact e
 have E0:=cp_5 (N:=N) (b:=fun _=>a0) (us:= [.ref a0]) g0 i0 r (by rw [List.length_append,hl];show n + 1≤_;omega);have zj:ds.length=n:=by rw [←r.length];exact hl
 have hs:(o_3 N (vs0 ++ [.ref a0]))[ds.length]? =some (some (.ref a0)):=by
  unfold o_3;rw [List.getElem?_append_left (by rw [List.length_map,List.length_append,hl,zj];exact Nat.lt_succ_self _),List.getElem?_map,List.getElem?_append_right (by rw [hl,zj];exact Nat.le_refl _),hl,zj,Nat.sub_self];rfl
 have E1:=E0.putO (i:=ds.length) (z:= .lt t) (S:=S0) (fun a ha=>⟨by simp only;rw [if_pos ha],(out a ha).1,(out a ha).2⟩) rfl (fun _ z=>by cases z) tw (fun j a ha=>ha.elim) (fun _ _=>rfl);rw [y_5 hs] at E1;refine⟨⟨fun b=>if S0 b then none else H b,fun _=>a0⟩,G,G,_,_,E1, ?_⟩;unfold bv_7 at ef;have e2:(start3 N.length ds).set ds.length (.lt t)=bm_6 N.length ds t:=rfl;rw [e2];cases e:g (bm_6 N.length ds t) with
 |nx Δ=>
  rw [e] at ef;simp only at ef
  split at ef
  ·rename_i t2 e3;cases ef;intro σ G' H' O E' _;obtain⟨v,s1,t3⟩:=E'.ow _ _ _ e3 rfl;have s2:=E'.lt _ _ e3;rw [s1] at s2;cases s2;refine q G' H' (O ds.length) ⟨fun b o nb z=>E'.st.hh b o (by simp only;rw [if_neg nb];exact z),E'.st.gh,E'.st.gg,fun b nb z1 z2=>E'.st.nw b z1 (by simp only;rw [if_neg nb];exact z2)⟩ (fun a ha=> ?_) t3;obtain⟨k1,k2,k3⟩:=E'.out _ a ha;refine⟨?_,k1,k3⟩;simp only at k2
   split at k2
   ·rename_i z;exact .inl z
   ·exact .inr k2
  ·cases ef
 |rt w=>rw [e] at ef;cases ef
 |ex x Δ=>rw [e] at ef;cases ef
 |bk Δ=>rw [e] at ef;cases ef
 |ct Δ=>rw [e] at ef;cases ef
 |no=>rw [e] at ef;cases ef
def FnMd(P:Program)(w:World)(K:Frag)(mg:Str→Option Value)(base:Heap)(c:Bool)(x:Str)(k n:Nat)(ps:List Str)(F:List D→Tn→Option Tn):Prop:=
 ∃f fd,FnX P w K mg base c k f fd ps (spM K n F)∧mg x=some (.ref f)∧keepIn K (.ref f)=true∧Binds K fd ps []
theorem dt_4{c:Bool}{w:World}{x:Str}{st:Stmt}{f:Addr}{ps:List Str}{k n:Nat}{Fn:List D→Tn→Option Tn}(F:Fun K x x st f fd)(hm:mg x=some (.ref f))(hb:Binds K fd ps [])
  (ok:FnX P w K mg base c k f fd ps (spM K n Fn)):FnMd P w K mg base c x k n ps Fn:=⟨f,fd,ok,hm,F.kp,hb⟩
section
variable{X:Cx}{EX:EXS}{e:Expr}{es:List Expr}{x:Str}{pp pos:Pos}{c:Bool}{k k':Nat}{ps:List Str}
theorem cx_9{sp:Sp}{ta:TA}{f:Addr}(hr:RoomC c k' X.A)(lk:Lk X EX)(ok:FnX X.prog X.w X.K X.mg X.base c k f fd ps sp)(hm:X.mg x=some (.ref f))(kp:keepIn X.K (.ref f)=true)(hb:Binds X.K fd ps [])(ha:PA X (e::es) ta)(hk:k≤k')(hg:Gl X x)(hdb:(x ==("__debug__" :Str))=false)
  (he:starEach (e::es) X.env=(false,eval e X.env)::starEach es X.env) (hpl:(backTo pos (starEach es X.env)).any (·.1)=false):
  PE X (.Call (.Name x pp) (e::es) [] pos) (fun σ H Q=>ta σ H fun vs H1=>sp vs H1 Q (EXE X.K (EX σ))):=by
 intro zc s σ H Q I q;refine wpAny_Call_Name_kw (w_6 I hg hm ?_ hdb);refine callWith_K (h₀:=X.base) I.ok.mod.kin kp (thn (ha pos zc s σ H _ I q) fun us s1 ⟨vs,H1,I1,r,q⟩=>⟨I1.kIn, ?_⟩) he hpl;exact av_2 ok (hr.mono hk) hb lk I1 r q
def ay_5(i:Nat)(F:List D→Tn→Option Tn)(f1 f2:FE):FS:=fun Δ=>match(Δ[i]?).bind Sl.tree with
 |some (.dic zk,lk)=>(match f1 (vsh Δ) with
  | .ok w1=>(match f2 (vsh Δ) with
   | .ok w2=>(match F [w1.d,w2.d] (.dic zk) with
    |some t'=> .nx (Δ.set i (Sl.mk lk t'))
    |none=> .no)
   |_=> .no)
  |_=> .no)
 |_=> .no
theorem cy_0{i:Nat}{y:Str}{e1 e2:Expr}{f1 f2:FE}{F:List D→Tn→Option Tn}{p3:Pos}(hr:RoomC c k' X.A)(lk:Lk X EX)(h:FnMd X.prog X.w X.K X.mg X.base c x k 2 ps F)(h1:ED X EX e1 f1)(h2:ED X EX e2 f2)(hk:k≤k':=by decide)
  (hN:X.N[i]? =some y:=by rfl) (hv:Vis X.env.scope y:=by first|exact Or.inl rfl|exact Or.inr (Or.inl rfl)|exact Or.inr (Or.inr rfl)) (hd:(y ==("__debug__" :Str))=false:=by decide) (hcd:(y ==("__classdict__" :Str))=false:=by decide)
  (hg:Gl X x:=by rfl) (hdb:(x ==("__debug__" :Str))=false:=by decide) (hs1:starEach [e1,e2, .Name y p3] X.env=(false,eval e1 X.env)::starEach [e2, .Name y p3] X.env:=by rfl) (hs2:starEach [e2, .Name y p3] X.env=(false,eval e2 X.env)::starEach [.Name y p3] X.env:=by rfl) (hs3:starEach [.Name y p3] X.env=(false,eval (.Name y p3) X.env)::starEach [] X.env:=by rfl)
  (hpl:(backTo pos (starEach [e2, .Name y p3] X.env)).any (·.1)=false:=by rfl) (hsw:swapsWith (.Call (.Name x pp) [e1,e2, .Name y p3] [] pos) none pos.line X.env=pure false:=by rfl) {cz:Pos} (fj:swapsWith (.Call (.Name x pp) [e1,e2, .Name y p3] [] pos) none cz.line X.env=pure false:=by rfl):
  SD X EX (.Expr (.Call (.Name x pp) [e1,e2, .Name y p3] [] pos) cz) (ay_5 i F f1 f2):=by
 obtain⟨f,fd,ok,hm,kp,hb⟩:=h;refine PS.imp (aj_2 (cx_9 hr lk ok hm kp hb (k_6 h1 (k_6 h2 (k_6 (h_4 hN hv hd hcd) x_6 hs3) hs2) hs1) hk hg hdb hs1 hpl) fj) fun D σ H ⟨H0,G0,G,Δ,O,E,q⟩=> ?_;unfold ay_5 at q
 split at q
 ·rename_i zk lk e0;obtain⟨s,e1,etr⟩:=Option.bind_eq_some_iff.mp e0;refine⟨G,vsh Δ,E.st.gh,E.gsh, ?_⟩;cases q1:f1 (vsh Δ) with
  |ex x=>simp only [q1] at q;exact q.elim
  |no=>simp only [q1] at q;exact q.elim
  |ok w1=>
   simp only [q1] at q;refine WP.intro fun v1 G1 H1 st1 r1=> ?_;have E1:=E.grow st1;refine⟨G1,vsh Δ,E1.st.gh,E1.gsh, ?_⟩;cases q2:f2 (vsh Δ) with
   |ex x=>simp only [q2] at q;exact q.elim
   |no=>simp only [q2] at q;exact q.elim
   |ok w2=>
    simp only [q2] at q;refine WP.intro fun v2 G2 H2 st2 r2=> ?_;have E2:=E1.grow st2;obtain⟨v0,s1,t0⟩:=E2.ow i _ _ e1 (Sl.tree_own etr);refine⟨v0,s1, ?_⟩
    split at q
    ·rename_i t' ef;obtain⟨a0,_,_,rfl,_⟩:=t0.dic_of;refine⟨[v1,v2],a0,rfl,rfl,G2, [w1.d,w2.d], .dic zk,O i,t',E2.st.gh, .cons (r1.mono st2.gg) (.cons r2 .nil),t0,fun a ha=>⟨(E2.out i a ha).1,(E2.out i a ha).2.2⟩,ef,fun G' H' S' ms fr t1=> ?_⟩;exact q σ G' H' _ (E2.step2 (Sl.mk_own lk t') (Sl.mk_lk lk t') (E2.mk_lt e1 etr t') ms s1 fr t1) ((st1.gg.trans st2.gg).trans ms.gg)
    ·exact q.elim
 ·exact q.elim
def cy_1(i j:Nat):FS:=fun Δ=>if i=j then .no else match(Δ[i]?).bind Sl.tree,(Δ[j]?).bind Sl.tree with
 |some (t1,false),some (t2,false)=> .rt (.tr (.tup [t1,t2]))
 |_,_=> .no
theorem dj_1{i j x1:Nat}{x y:Str}{p1 p2 p3:Pos}(hN:X.N[i]? =some x:=by rfl)(hv:Vis X.env.scope x:=by first|exact Or.inl rfl|exact Or.inr (Or.inl rfl)|exact Or.inr (Or.inr rfl))(hd:(x ==("__debug__" :Str))=false:=by decide)
  (hcd:(x ==("__classdict__" :Str))=false:=by decide) (hN2:X.N[j]? =some y:=by rfl) (hv2:Vis X.env.scope y:=by first|exact Or.inl rfl|exact Or.inr (Or.inl rfl)|exact Or.inr (Or.inr rfl)) (hd2:(y ==("__debug__" :Str))=false:=by decide)
  (gi:(y ==("__classdict__" :Str))=false:=by decide) (hs1:starEach [.Name x p1, .Name y p2] X.env=(false,eval (.Name x p1) X.env)::starEach [.Name y p2] X.env:=by rfl) (hs2:starEach [.Name y p2] X.env=(false,eval (.Name y p2) X.env)::starEach [] X.env:=by rfl):
  SD X EX (.Return (some (.Tuple [.Name x p1, .Name y p2] x1 p3)) pos) (cy_1 i j):=
 PS.imp (cb_4 (cu_0 (k_6 (h_4 hN hv hd hcd) (k_6 (h_4 hN2 hv2 hd2 gi) x_6 hs2) hs1))) fun D σ H ⟨H0,G0,G,Δ,O,E,q⟩=>by
  unfold cy_1 at q
  split at q
  ·exact q.elim
  ·rename_i hij
   split at q
   ·rename_i t1 t2 e1 e2;obtain⟨z1,a1,b1⟩:=Option.bind_eq_some_iff.mp e1;obtain⟨z2,a2,b2⟩:=Option.bind_eq_some_iff.mp e2;obtain⟨v1,s1,w1⟩:=E.ow i _ _ a1 (Sl.tree_own b1);obtain⟨v2,s2,w2⟩:=E.ow j _ _ a2 (Sl.tree_own b2);refine⟨v1,s1,v2,s2,by rw [sizeLine_eq];show 2≤_;decide,fun p hp=> ?_⟩;have np:∀k b,O k b→b≠p:=fun k b hb z=>(E.out k b hb).2.2 (by rw [z];exact hp);have grow:∀k b o,O k b→H b=some o→upd H p (.tup [v1,v2]) b=some o:=fun k b o hb z=>by rw [b_0 (np k b hb)];exact z
    refine q (.ref p) (fun b=>b=p∨O i b∨O j b) G _ (E.st.trans (Step.own E.st.gh hp _)) (fun a ha=> ?_) ?_
    ·rcases ha with ha|ha|ha
     ·subst ha;exact⟨E.st.hh.free hp,E.st.gh.free hp,by rw [b_3];simp⟩
     ·obtain⟨k1,k2,k3⟩:=E.out i a ha;exact⟨k2,k1,by rw [b_0 (np i a ha)];exact k3⟩
     ·obtain⟨k1,k2,k3⟩:=E.out j a ha;exact⟨k2,k1,by rw [b_0 (np j a ha)];exact k3⟩
    ·refine Ow.tup (S1:=fun b=>O i b∨O j b) b_3 (.inl rfl) (fun b hb=>⟨.inr hb, ?_⟩) (.cons (S1:=O i) (S2:=O j) (w1.mono (Same.refl _) (grow i) fun _ z=>z) (.cons (S1:=O j) (S2:=fun _=>False) (w2.mono (Same.refl _) (grow j) fun _ z=>z) .nil (fun _ _ z=>z) (fun _ z=>z) fun _ z=>z.elim) (fun b z1 z2=>hij (E.dj i j b z1 z2)) (fun _ z=> .inl z) fun _ z=> .inr z);rcases hb with hb|hb
     ·exact np i b hb
     ·exact np j b hb
   ·exact q.elim
end
def OFld(K:Frag)(cs:List Str)(f:Str):Prop:=∀c,cs.contains c=true→∀C,ClsAt K c C→Cls K C∧NoAttr K C f
theorem OFld.nil{f:Str}:OFld K [] f:=fun c h=>by cases h
theorem ClsAt.same{c:Str}{C C':Addr}(a:ClsAt K c C)(b:ClsAt K c C'):C'=C:=by
 unfold ClsAt at a b;rw [a] at b;injection b with b
 injection b with b
 injection b with b
 exact b.symm
theorem OFld.one{c:Str}{C:Addr}{cs:List Str}{f:Str}(a:ClsAt K c C)(k:Cls K C)(n:NoAttr K C f)(r:OFld K cs f):OFld K (c::cs) f:=fun c' h C' a'=>by
 rw [List.contains_cons,Bool.or_eq_true] at h;rcases h with h|h
 ·have e:=beq_iff_eq.mp h;subst e;rw [a.same a'];exact⟨k,n⟩
 ·exact r c' h C' a'
def h_7(cs:List Str)(f:Str)(fo:FE):FE:=fun δ=>(fo δ).bind fun w=>match w.d with
 | .obj c ns vs=>if cs.contains c then(match(ns.zip vs).lookup f with
  |some d=> .ok (.sh d)
  |none=> .no) else .no
 |_=> .no
theorem av_6{G:Hp}{f:Str}:∀{ns:List Str} {us:List V} {vs:List D},HasL K G us vs→ns.length=us.length→(∀d,(ns.zip vs).lookup f=some d→∃v,(ns.zip us).lookup f=some v∧Has K G v d)∧(ns.contains f=false→(ns.zip us).lookup f=none)
 | [],_,_,_,_=>⟨fun d e=>(by cases e),fun _=>rfl⟩
 |n::ns, [],_,_,e=>by simp at e
 |n::ns,u::us,_, .cons h r,e=>by
  obtain⟨i1,i2⟩:=av_6 (f:=f) (ns:=ns) r (by simpa using e);refine⟨fun d q=> ?_,fun q=> ?_⟩
  ·rw [List.zip_cons_cons,List.lookup_cons] at q⊢;cases hb:f ==n with
   |true=>simp only [hb] at q⊢;cases q;exact⟨u,rfl,h⟩
   |false=>simp only [hb] at q⊢;exact i1 d q
  ·rw [List.contains_cons,Bool.or_eq_false_iff] at q;rw [List.zip_cons_cons,List.lookup_cons];simp only [q.1];exact i2 q.2
section
variable{X:Cx}{EX:EXS}{e:Expr}{pos:Pos}
theorem j_7{cs:List Str}{f:Str}{fo:FE}(k:OFld X.K cs f)(he:ED X EX e fo)(hb:attributeBase e f X.env (eval e X.env)=eval e X.env:=by rfl):ED X EX (.Attribute e f pos) (h_7 cs f fo):=
 PE.imp (dq_7 he hb) fun σ H Q ⟨G,δ,g0,s0,o⟩=>tD.seq g0 s0 o fun w v G1 H1 _ st r o'=>by
  revert o' r;cases w.d with
  |obj c ns vs=>
   intro r o';simp only at o'
   split at o'
   ·rename_i hc
    split at o'
    ·rename_i d ed;cases r with
     |obj hC hh hl rl=>
      obtain⟨v1,e1,h1⟩:=(av_6 (f:=f) rl hl).1 d ed;obtain⟨kc,kn⟩:=k c hc _ hC;exact⟨_,_,_,_,v1,rfl,st.gh _ _ hh,kc,kn,e1,d_7 o' st.gh h1⟩
    ·exact o'.elim
   ·exact o'.elim
  |_=>intro _ o';exact False.elim o'
end
structure MethD(P:Program)(w:World)(K:Frag)(mg:Str→Option Value)(base:Heap)(cc:Bool)(k n:Nat)(m c:Str)(F:List D→R W):Prop where
 ex:∃C f fd ps,ClsAt K c C∧Cls K C∧Meth K C m f∧FnX P w K mg base cc k f fd ps (spX K (n + 1) F)∧Binds K fd ps []
def MethT(P:Program)(w:World)(K:Frag)(mg:Str→Option Value)(base:Heap)(cc:Bool)(k n:Nat)(m:Str)(tb:List (Str×(List D→R W))):Prop:=∀c F,tb.lookup c=some F→MethD P w K mg base cc k n m c F
theorem MethT.nil{w:World}{cc:Bool}{k n:Nat}{m:Str}:MethT P w K mg base cc k n m []:=fun c F e=>by cases e
theorem FnX.up{w:World}{c:Bool}{j k:Nat}{f:Addr}{ps:List Str}{sp:Sp}(F:FnX P w K mg base c j f fd ps sp)(h:j≤k):FnX P w K mg base c k f fd ps sp:=
 ⟨F.len,fun A outer s H args us vs Q E hr=>F.run A outer s H args us vs Q E (hr.mono h)⟩
theorem MethT.one{w:World}{cc:Bool}{j k n:Nat}{m c:Str}{F:List D→R W}{tb:List (Str×(List D→R W))}(d:MethD P w K mg base cc j n m c F)(hj:j≤k)(r:MethT P w K mg base cc k n m tb):MethT P w K mg base cc k n m ((c,F)::tb):=fun c' F' e=>by
 rw [List.lookup_cons] at e;cases hb:c' ==c with
 |true=>
  simp only [hb] at e;cases e;have:=beq_iff_eq.mp hb;subst this;obtain⟨C,f,fd,ps,a1,a2,a3,a4,a5⟩:=d.ex;exact⟨C,f,fd,ps,a1,a2,a3,a4.up hj,a5⟩
 |false=>simp only [hb] at e;exact r c' F' e
def d_2(m:Str)(n:Nat)(tb:List (Str×(List D→R W)))(fo:FE)(fa:FA):FE:=fun δ=>(fo δ).bind fun w=>match w.d with
 | .obj c ns vs=>if ns.contains m then .no else match tb.lookup c with
  |some F=>(fa δ).bind fun ds=>if ds.length=n then F (.obj c ns vs::ds) else .no
  |none=> .no
 |_=> .no
section
variable{X:Cx}{EX:EXS}{e o:Expr}{es:List Expr}{pos zf:Pos}{cc:Bool}{k k' n:Nat}{m:Str}{tb:List (Str×(List D→R W))}{fo:FE}{fa:FA}
def cy_2(X:Cx)(EX:EXS)(cc:Bool)(k:Nat)(m:Str)(ta:TE)(t:TA):TE:=fun σ H Q=>ta σ H fun x H1=>∃a C dx fs f fd ps sp,x= .ref a∧H1 a=some (.ins C dx fs)∧fs.lookup m=none∧Cls X.K C∧Meth X.K C m f∧
 FnX X.prog X.w X.K X.mg X.base cc k f fd ps sp∧Binds X.K fd ps []∧t σ H1 fun vs H2=>sp (.ref a::vs) H2 Q (EXE X.K (EX σ))
theorem dj_2{pl:Sem Bool}{ta:TE}{t:TA}(he:PE X o ta)(hr:RoomC cc k X.A)(lk:Lk X EX)(ha:PA X (e::es) t)
  (hst:starEach (e::es) X.env=(false,eval e X.env)::starEach es X.env) (hpl:(backTo pos (starEach es X.env)).any (·.1)=false)
  (ht:eval (.Call (.Attribute o m zf) (e::es) [] pos) X.env=(do
   let ov←eval o X.env
   standAt zf.atName
   let(f,first)←holding [ov] (getMethod ov m pl)
   callWith pos f first (backTo pos (starEach (e::es) X.env)) (backToKw pos (keywordEach [] X.env)))):
  PE X (.Call (.Attribute o m zf) (e::es) [] pos) (cy_2 X EX cc k m ta t):=by
 intro zc s σ H Q I h;refine methodCall_KW (pl:=pl) (thn (he zc s σ H _ I h) fun u s1 ⟨x,H1,I1,rx,a,C,dx,fs,f,fd,ps,sp,ex,ea,l,c,hm,F,hb,q⟩=> ?_) ht;subst ex;obtain rfl:u=Value.ref a:=rx;refine ax_0 I1 ea c hm l ?_;refine callWith_K (first:= [.ref a]) (h₀:=X.base) I.ok.mod.kin hm.kp (thn (ha pos zc s1 σ H1 _ I1 q) fun us s2 ⟨vs,H2,I2,r,q2⟩=>⟨I2.kIn, ?_⟩) hst hpl;exact av_2 (us:= .ref a::us) (vs:= .ref a::vs) F hr hb lk I2 (.cons rfl r) q2
theorem cy_3{pl:Sem Bool}{ta:TE}(he:PE X o ta)(hr:RoomC cc k X.A)(lk:Lk X EX)
  (ht:eval (.Call (.Attribute o m zf) [] [] pos) X.env=(do
   let ov←eval o X.env
   standAt zf.atName
   let(f,first)←holding [ov] (getMethod ov m pl)
   callWith pos f first (backTo pos (starEach [] X.env)) (backToKw pos (keywordEach [] X.env)))):
  PE X (.Call (.Attribute o m zf) [] [] pos) (cy_2 X EX cc k m ta tNil):=by
 intro zc s σ H Q I h;refine methodCall_KW (pl:=pl) (thn (he zc s σ H _ I h) fun u s1 ⟨x,H1,I1,rx,a,C,dx,fs,f,fd,ps,sp,ex,ea,l,c,hm,F,hb,q⟩=> ?_) ht;subst ex;obtain rfl:u=Value.ref a:=rx;refine ax_0 I1 ea c hm l ?_;exact callWith_K0 (first:= [.ref a]) I1.kIn hm.kp (av_2 (us:= [.ref a]) (vs:= [.ref a]) F hr hb lk I1 (.cons rfl .nil) q)
theorem dt_5{σ:Sg}{Q:VK}(hK:X.K=K)(T:MethT X.prog X.w X.K X.mg X.base cc k n m tb)(q:tD K EX (d_2 m n tb fo fa) σ H Q):cy_2 X EX cc k m (tD K EX fo) (tDa K EX fa) σ H Q:=by
 subst hK;obtain⟨G,δ,g0,s0,o⟩:=q;refine tD.seq g0 s0 o fun w v G1 H1 _ st r o'=> ?_;revert o' r;cases w.d with
 |obj c ns vs=>
  intro r o';simp only at o'
  split at o'
  ·exact o'.elim
  ·rename_i hn
   split at o'
   ·rename_i F ef;cases r with
    |obj hC hh hl rl=>
     rename_i a0 C0 dx0 us0;obtain⟨C,f,fd,ps,a1,a2,a3,a4,a5⟩:=(T c F ef).ex;have:=a1.same hC;subst this;refine⟨_,_,_,_,f,fd,ps,_,rfl,st.gh _ _ hh,(av_6 (f:=m) rl hl).2 (by simpa using hn),a2,a3,a4,a5, ?_⟩;refine tDa.seq st.gh (s0.mono st.gg) o' fun ds us G' H' _ st' r' o2=> ?_
     split at o2
     ·rename_i zj;refine⟨by rw [List.length_cons,r'.length,zj],G', .obj c ns vs::ds,st'.gh, .cons (Has.mono st'.gg (.obj hC hh hl rl)) r', ?_⟩;cases q:F (.obj c ns vs::ds) with
      |ok w=>rw [q] at o2;exact o2
      |ex x=>rw [q] at o2;exact EXof.in o2
      |no=>rw [q] at o2;exact o2.elim
     ·exact o2.elim
   ·exact o'.elim
 |_=>intro _ o';exact False.elim o'
theorem p_3{pl:Sem Bool}(T:MethT X.prog X.w X.K X.mg X.base cc k n m tb)(hr:RoomC cc k' X.A)(lk:Lk X EX)(he:ED X EX o fo)(ha:AD X EX (e::es) fa)(hk:k≤k':=by decide)
  (hst:starEach (e::es) X.env=(false,eval e X.env)::starEach es X.env:=by rfl) (hpl:(backTo pos (starEach es X.env)).any (·.1)=false:=by rfl)
  (ht:eval (.Call (.Attribute o m zf) (e::es) [] pos) X.env=(do
   let ov←eval o X.env
   standAt zf.atName
   let(f,first)←holding [ov] (getMethod ov m pl)
   callWith pos f first (backTo pos (starEach (e::es) X.env)) (backToKw pos (keywordEach [] X.env))):=by rfl):ED X EX (.Call (.Attribute o m zf) (e::es) [] pos) (d_2 m n tb fo fa):=
 PE.imp (dj_2 he (hr.mono hk) lk ha hst hpl ht) fun _ _ _ q=>dt_5 rfl T q
theorem r_2{pl:Sem Bool}(T:MethT X.prog X.w X.K X.mg X.base cc k 0 m tb)(hr:RoomC cc k' X.A)(lk:Lk X EX)(he:ED X EX o fo)(hk:k≤k':=by decide)
  (ht:eval (.Call (.Attribute o m zf) [] [] pos) X.env=(do
   let ov←eval o X.env
   standAt zf.atName
   let(f,first)←holding [ov] (getMethod ov m pl)
   callWith pos f first (backTo pos (starEach [] X.env)) (backToKw pos (keywordEach [] X.env))):=by rfl):ED X EX (.Call (.Attribute o m zf) [] [] pos) (d_2 m 0 tb fo aNil):=
 PE.imp (cy_3 he (hr.mono hk) lk ht) fun σ H Q ⟨G,δ,g0,s0,q⟩=>tD.seq g0 s0 q fun w v G1 H1 _ st r o'=>by
  revert o' r;cases w.d with
  |obj c ns vs=>
   intro r o';simp only at o'
   split at o'
   ·exact o'.elim
   ·rename_i hn
    split at o'
    ·rename_i F ef;cases r with
     |obj hC hh hl rl=>
      obtain⟨C,f,fd,ps,a1,a2,a3,a4,a5⟩:=(T c F ef).ex;have:=a1.same hC;subst this;refine⟨_,_,_,_,f,fd,ps,_,rfl,st.gh _ _ hh,(av_6 (f:=m) rl hl).2 (by simpa using hn),a2,a3,a4,a5, ?_⟩;have o2:Out X.K (EX σ) G1 H1 (F [.obj c ns vs]) Q:=o';refine⟨rfl,G1, [.obj c ns vs],st.gh, .cons (.obj hC hh hl rl) .nil, ?_⟩;cases q:F [.obj c ns vs] with
      |ok w=>rw [q] at o2;exact o2
      |ex x=>rw [q] at o2;exact EXof.in o2
      |no=>rw [q] at o2;exact o2.elim
    ·exact o'.elim
  |_=>intro _ o';exact False.elim o'
end
def unT:List Tn→Option (List D)
 | []=>some []
 | .sh d::r=>(unT r).map (d:: ·)
 |_=>none
theorem bv_8:∀{ts:List Tn} {ds:List D},unT ts=some ds→ts=ds.map .sh
 | [],_,e=>by cases e;rfl
 |t::r,ds,e=>by
  cases t with
  |sh d=>
   simp only [unT] at e;cases q:unT r with
   |none=>rw [q] at e;cases e
   |some l=>
    rw [q] at e;cases e;rw [bv_8 q];rfl
  |_=>cases e
def v_7(n:Nat)(c:Str)(ds:List D):SE:= .lt (.obj c [] [])::(ds.map Sl.sh ++ List.replicate (n - (ds.length + 1)) .no)
def ac_7(n:Nat)(c:Str)(g:FS)(ds:List D):R (List Str×List D):=match g (v_7 n c ds) with
 | .nx Δ=>(match Δ[(0:Nat)]? with
  |some (.lt (.obj c' ns ts))=>if c'=c then(match unT ts with
   |some rs=> .ok (ns,rs)
   |none=> .no) else .no
  |_=> .no)
 | .ex x _=> .ex x
 |_=> .no
def spI(K:Frag)(C:Addr)(n:Nat)(F:List D→R (List Str×List D)):Sp:=fun vs H Q E=>∃x dx vs0 Hq G ds,vs= .ref x::vs0∧vs0.length=n∧Hq x=none∧Same Hq H∧H x=some (.ins C dx [])∧Same G Hq∧HasL K G vs0 ds∧
 (match F ds with
 | .ok p=>∀G' H' us dx',Step G Hq G' H'→G' x=none→H' x=some (.ins C dx' (p.1.zip us))→p.1.length=us.length→HasL K G' us p.2→Q .non H'
 | .ex e=>(EXof K E).p e G Hq
 | .no=>False)
theorem cp_6{G H h0:Hp}{v0:V}{ds:List D}{N:List Str}{b:Nat→Addr}(g:Same G H)(i0:Same h0 H)(r:HasL K G vs ds)(hl:vs.length + 1≤N.length):Ev K ⟨h0,b⟩ G G H (o_3 N (v0::vs)) (.no::(ds.map Sl.sh ++ List.replicate (N.length - (ds.length + 1)) .no)) (fun _ _=>False):=by
 have key:∀(i:Nat) (s:Sl),(Sl.no::(ds.map Sl.sh ++ List.replicate (N.length - (ds.length + 1)) .no))[i]? =some s→(∃j d,i=j + 1∧s= .sh d∧ds[j]? =some d)∨s= .no:=fun i s e=>by
  cases i with
  |zero=>exact .inr (by simpa using e.symm)
  |succ i=>
   rw [List.getElem?_cons_succ] at e
   by_cases hi:i < ds.length
   ·rw [List.getElem?_append_left (by rw [List.length_map];exact hi),List.getElem?_map] at e;obtain⟨d,e1,e2⟩:=Option.map_eq_some_iff.mp e;exact .inl ⟨i,d,rfl,e2.symm,e1⟩
   ·rw [List.getElem?_append_right (by rw [List.length_map];omega),List.getElem?_replicate] at e
    split at e
    ·cases e;exact .inr rfl
    ·cases e
 refine⟨⟨i0,g,Same.refl _,fun _ n _=>n⟩, ?_,fun i d e=> ?_,fun i z d e zo=> ?_,fun _ _ ha=>ha.elim,fun _ _ _ ha=>ha.elim,fun i d e=> ?_,fun i d e=> ?_⟩
 ·unfold o_3;have:=r.length;simp only [List.length_append,List.length_map,List.length_replicate,List.length_cons] at hl⊢;omega
 ·rcases key i _ e with⟨j,d',rfl,q,q2⟩|q
  ·cases q;obtain⟨v,e1,h⟩:=r.get q2;refine⟨v, ?_,h⟩;unfold o_3;have hi:j < vs.length:=(List.getElem?_eq_some_iff.mp e1).1;rw [List.getElem?_append_left (by rw [List.length_map,List.length_cons];omega),List.getElem?_map,List.getElem?_cons_succ,e1];rfl
  ·cases q
 ·rcases key i _ e with⟨j,d',_,q,_⟩|q <;> (subst q;cases zo)
 ·rcases key i _ e with⟨j,d',_,q,_⟩|q <;> cases q
 ·rcases key i _ e with⟨j,d',_,q,_⟩|q <;> cases q
theorem fn_I{c:Bool}{w:World}{x qual cn:Str}{st:Stmt}{f C:Addr}{N ps:List Str}{k n:Nat}{g:FS}(F:Fun K x qual st f fd)(S:FnScope N ps (b_2 st))(hC:ClsAt K cn C)(hn:ps.length=n + 1)(hle:ps.length≤N.length)
  (zh:∀(zn:Value) (A:Around) (outer:List Env) (s:Shared) (H:Hp) (E:XK),RoomC c k (A.deeper (envOfC qual (b_2 st) s.heap.objs.size f zn))→
   BD (cxN c P w K mg base N qual (b_2 st) f zn A outer s H E) (fun _=>EXof K E) (e_1 st) g):FnX P w K mg base c (k + 1) f fd ps (spI K C n (ac_7 N.length cn g)):=by
 refine Fun.okX F S (fun vs H Q E h=> ?_) fun zn A outer s H vs Q E hr h=>⟨_,zh zn A outer s H E hr, ?_⟩
 ·obtain⟨x,dx,vs0,Hq,G,ds,rfl,hl,_⟩:=h;rw [List.length_cons,hl,hn]
 obtain⟨x,dx,vs0,Hq,G,ds,rfl,hl,n1,i0,hx,g0,r,q⟩:=h;have E0:=cp_6 (N:=N) (b:=fun _=>x) (v0:= .ref x) (g0.trans i0) i0 r (by rw [hl];omega);have hs:(o_3 N (.ref x::vs0))[0]? =some (some (.ref x)):=rfl;have E1:=E0.putO (i:=0) (z:= .lt (.obj cn [] [])) (v:= .ref x) (S:=fun b=>b=x) (fun a ha=>by subst ha;exact⟨n1,g0.free n1,by rw [hx];simp⟩) rfl (fun _ z=>by cases z) (.obj (S1:=fun _=>False) hC (us:= []) hx rfl rfl (fun _ z=>z.elim) .nil) (fun j a ha=>ha.elim) (fun _ _=>rfl);rw [y_5 hs] at E1;refine⟨⟨Hq,fun _=>x⟩,G,G,_,_,E1, ?_⟩;unfold ac_7 at q;have e2:(Sl.no::(ds.map Sl.sh ++ List.replicate (N.length - (ds.length + 1)) .no)).set 0 (.lt (.obj cn [] []))=v_7 N.length cn ds:=rfl;rw [e2];cases e:g (v_7 N.length cn ds) with
 |nx Δ=>
  rw [e] at q;intro σ G' H' O E' _;simp only at q
  split at q
  ·rename_i p ep
   split at ep
   ·rename_i c2 ns ts e3
    split at ep
    ·rename_i hcc;subst hcc
     split at ep
     ·rename_i rs eu;cases ep;obtain⟨v,s1,t3⟩:=E'.ow _ _ _ e3 rfl;have s2:=E'.lt _ _ e3;rw [s1] at s2;cases s2;cases t3 with
      |obj hc h hl' ha sub rl=>
       rw [bv_8 eu] at rl;have:=hC.same hc;subst this;exact q G' H' _ _ E'.st (E'.out _ _ ha).1 h hl' rl.off
     ·cases ep
    ·cases ep
   ·cases ep
  ·rename_i x2 ep
   split at ep
   ·split at ep
    ·split at ep <;> cases ep
    ·cases ep
   ·cases ep
  ·rename_i ep;exact q.elim
 |ex x Δ=>rw [e] at q;exact fun σ G' H' O E' _=>(EXof K E).mono _ _ _ _ _ E'.st q
 |rt w=>rw [e] at q;exact q.elim
 |bk Δ=>rw [e] at q;exact q.elim
 |ct Δ=>rw [e] at q;exact q.elim
 |no=>rw [e] at q;exact q.elim
theorem bv_9{f:Str}{y:V}:∀{ns:List Str} {us:List V},ns.length=us.length→ns.contains f=false→z_9 f y (ns.zip us)=(ns ++ [f]).zip (us ++ [y])
 | [], [],_,_=>rfl
 | [],_::_,e,_=>by simp at e
 |_::_, [],e,_=>by simp at e
 |n::ns,u::us,e,h=>by
  rw [List.contains_cons,Bool.or_eq_false_iff] at h;have hn:¬n=f:=fun z=>by rw [z] at h;simp at h
  show z_9 f y ((n,u)::ns.zip us)=(n,u)::(ns ++ [f]).zip (us ++ [y]);unfold z_9;rw [if_neg hn,bv_9 (by simpa using e) h.2]
def l_3(i:Nat)(cs:List Str)(f:Str)(js:List Nat)(fe:FE):FS:=fun Δ=>match(gsome js Δ)[i]? with
 |some (.lt (.obj c ns ts))=>if cs.contains c=true∧ns.contains f=false∧ns.length < 1000 then(match fe (vsh (gsome js Δ)) with
  | .ok w=> .nx ((gsome js Δ).set i (.lt (.obj c (ns ++ [f]) (ts ++ [.sh w.d]))))
  | .ex x=> .ex x (gsome js Δ)
  | .no=> .no) else .no
 |_=> .no
section
variable{X:Cx}{EX:EXS}{pos:Pos}
theorem m_6{i:Nat}{cs:List Str}{f x:Str}(js:List Nat){e:Expr}{fe:FE}{p1 p2:Pos}(k:OFld X.K cs f)(he:ED X EX e fe)(hN:X.N[i]? =some x:=by rfl)(hv:Vis X.env.scope x:=by first|exact Or.inl rfl|exact Or.inr (Or.inl rfl)|exact Or.inr (Or.inr rfl))(hd:(x ==("__debug__" :Str))=false:=by decide)
  (hcd:(x ==("__classdict__" :Str))=false:=by decide) (hs:swapsWith e (some (.Attribute (.Name x p1) f p2)) pos.line X.env=pure false:=by rfl):SD X EX (.Assign [.Attribute (.Name x p1) f p2] e pos) (l_3 i cs f js fe):=
 PS.imp (dq_8 (h_4 hN hv hd hcd) he hs) fun D σ H ⟨H0,G0,G,Δ,O,E,q⟩=>by
  obtain⟨G1,O1,sg,E1⟩:=E.gsome js;unfold l_3 at q;generalize gsome js Δ=Δ1 at q E1
  split at q
  ·rename_i c ns ts e1
   split at q
   ·rename_i hc;obtain⟨hc1,hc2,hc3⟩:=hc;refine⟨G1,vsh Δ1,E1.st.gh,E1.gsh, ?_⟩;cases e2:fe (vsh Δ1) with
    |ex y=>simp only [e2] at q;exact q σ G1 H O1 E1 sg
    |no=>simp only [e2] at q;exact q.elim
    |ok w=>
     simp only [e2] at q;refine WP.intro fun v G2 H2 st r=> ?_;have E2:=E1.grow st;obtain⟨v0,s1,t⟩:=E2.ow i _ _ e1 rfl;have s2:=E2.lt i _ e1;generalize et:(Tn.obj c ns ts)=t0 at t;cases t with
     | @obj a C dx c2 ns2 us ts2 S S1 hC h hl ha sub rl=>
      injection et with et1 et2 et3
      subst et1 et2 et3;obtain⟨kc,kn⟩:=k _ hc1 _ hC;refine⟨_,s1,_,_,_,_,rfl,h,kc,kn,by rw [List.length_zip,←hl,Nat.min_self];exact hc3, ?_⟩;rw [bv_9 hl hc2];have ms:=MStep.write (S:=O1 i) E2.st.gh ha (E2.out i _ ha).1 (.ins C dx ((ns ++ [f]).zip (us ++ [v])));refine q σ G2 _ _ (E2.step2 (S:=O1 i) (z:= .lt _) rfl (fun _ z=>by cases z) (fun _ _=>by rw [s1] at s2⊢;exact s2) ms.weak s1 (fun b hb=>⟨.inl hb,(E2.out i b hb).1,ms.al b (E2.out i b hb).2.2⟩) ?_) (sg.trans st.gg);refine .obj hC b_3 (by rw [List.length_append,List.length_append,hl];rfl) ha sub ?_;refine OwL.append (S2:=fun _=>False) (rl.mono (Same.refl _) (fun b o hb z=> ?_) fun _ z=>z) (.cons (S1:=fun _=>False) (S2:=fun _=>False) (.sh r) .nil (fun _ z _=>z) (fun _ z=>z.elim) fun _ z=>z.elim) (fun _ _ z=>z) (fun _ z=>z) fun _ z=>z.elim;rw [b_0 (sub b hb).2];exact z
     |_=>cases et
   ·exact q.elim
  ·exact q.elim
end
section
variable{X:Cx}{EX:EXS}{e:Expr}{es:List Expr}{x:Str}{pp pos:Pos}{cc:Bool}{k k' n:Nat}{ps:List Str}{C f:Addr}{fd:FuncData}
theorem cp_7{zc:List (Addr×Obj)}{σ:Sg}{s:Shared}{Q:VK}{sp:Sp}(M:Mk X.K C f)(F:FnX X.prog X.w X.K X.mg X.base cc k f fd ps sp)(hr:RoomC cc (k + 1) X.A)(hb:Binds X.K fd ps [])(lk:Lk X EX)(I:Inv X zc σ H s)(r:Vals vs us)
  (h:∀x dx,H x=none→H dx=none→dx≠x→sp (.ref x::vs) (upd (upd H dx (.own x)) x (.ins C dx [])) (fun v H2=>v= .non∧Q (.ref x) H2) (EXE X.K (EX σ))):wpAny (model X.prog X.w) X.A (call (.ref C) us) (EP X zc σ Q) X.xe s:=by
 have hq:=h (s.heap.objs.size + 1) s.heap.objs.size (I.hok.fresh (Nat.le_succ _)) (I.hok.fresh (Nat.le_refl _)) (Nat.ne_of_lt (Nat.lt_succ_self _));have I2:=Inv.made (C:=C) I;have r2:Vals (V.ref (s.heap.objs.size + 1)::vs) (Value.ref (s.heap.objs.size + 1)::us):= .cons rfl r;have hl:(Value.ref (s.heap.objs.size + 1)::us).length=ps.length:=by
  rw [←r2.length];exact F.len _ _ _ _ hq
 have hb':=hb _ (Value.ref (s.heap.objs.size + 1)::us) I2.kIn (by rw [List.append_nil];exact hl);rw [List.append_nil] at hb';refine wpAny_call (ct_9 (f:=f) I.kIn M.makes M.init (beq_iff_eq.mp M.fn) (codeAny_mono (F.run _ X.stack _ _ ⟨Value.ref (s.heap.objs.size + 1)::us, []⟩ (Value.ref (s.heap.objs.size + 1)::us) _ _ _ (hr.make C us []) (I2.env0.make C us []) hb' r2 hq) fun r s' hq'=> ?_));cases r with
 |error e=>exact lk zc σ _ _ e s' I2 hq'
 |ok fl=>
  cases fl with
  |ret u=>
   obtain⟨v,H',I3,rv,ev,q3⟩:=I2.after hq';subst ev;exact⟨rv,⟨V.ref (s.heap.objs.size + 1),H',I3,rfl,q3⟩⟩
  |next=>exact False.elim hq'
  |brk=>exact False.elim hq'
  |cont=>exact False.elim hq'
def MakD(P:Program)(w:World)(K:Frag)(mg:Str→Option Value)(base:Heap)(cc:Bool)(c:Str)(k n:Nat)(F:List D→R (List Str×List D)):Prop:=
 ∃C f fd ps,ClsAt K c C∧mg c=some (.ref C)∧Mk K C f∧FnX P w K mg base cc k f fd ps (spI K C n F)∧Binds K fd ps []
def ab_3(c:Str)(n:Nat)(F:List D→R (List Str×List D))(fa:FA):FE:=fun δ=>(fa δ).bind fun ds=>if ds.length=n then(F ds).bind fun p=> .ok (.sh (.obj c p.1 p.2)) else .no
theorem ak_6{F:List D→R (List Str×List D)}{fa:FA}(hr:RoomC cc k' X.A)(lk:Lk X EX)(h:MakD X.prog X.w X.K X.mg X.base cc x k n F)(ha:AD X EX (e::es) fa)(hk:k + 1≤k':=by decide)(hg:Gl X x:=by rfl)(hdb:(x ==("__debug__" :Str))=false:=by decide)
  (he:starEach (e::es) X.env=(false,eval e X.env)::starEach es X.env:=by rfl) (hpl:(backTo pos (starEach es X.env)).any (·.1)=false:=by rfl):ED X EX (.Call (.Name x pp) (e::es) [] pos) (ab_3 x n F fa):=by
 obtain⟨C,f,fd,ps,hC,hm,M,ok,hb⟩:=h;intro zc s σ H Q I q;obtain⟨G,δ,g0,s0,o⟩:=q;refine wpAny_Call_Name_kw (w_6 I hg hm ?_ hdb);have ta:tDa X.K EX fa σ H fun vs H1=>∃G1 ds,Same G1 H1∧HasL X.K G1 vs ds∧ds.length=n∧Out X.K (EX σ) G1 H1 ((F ds).bind fun p=> .ok (.sh (.obj x p.1 p.2))) Q:=by
  refine tDa.seq g0 s0 o fun ds vs G' H' _ st r o'=> ?_
  split at o'
  ·rename_i hl;exact⟨G',ds,st.gh,r,hl,o'⟩
  ·exact o'.elim
 refine callWith_K (h₀:=X.base) I.ok.mod.kin M.kp (thn (ha pos zc s σ H _ I ta) fun us s1 ⟨vs,H1,I1,r,G1,ds,sg,rl,hl,o'⟩=>⟨I1.kIn, ?_⟩) he hpl;refine cp_7 M ok (hr.mono hk) hb lk I1 r fun y dy ny ndy ne=> ?_;refine⟨y,dy,vs,H1,G1,ds,rfl,by rw [rl.length];exact hl,ny,(fun b o e=>by rw [b_0 (d_5 e ny),b_0 (d_5 e ndy)];exact e),b_3,sg,rl, ?_⟩;cases ef:F ds with
 |ok p=>
  rw [ef] at o';intro G' H' us' dx' st gy hy zj rr;refine⟨rfl, ?_⟩;have st2:Step G1 H1 (upd G' y (.ins C dx' (p.1.zip us'))) H':=⟨st.hh,fun b u z=>by
   by_cases w:b=y
   ·subst w;rw [b_3] at z;rw [hy];exact z
   ·rw [b_0 w] at z;exact st.gh b u z,st.gg.trans (l_1 gy _),fun b z1 z2=>by
   have w:b≠y:=fun w=>z2 (by rw [w];exact ny);rw [b_0 w];exact st.nw b z1 z2⟩
  exact o' _ _ _ st2 (.obj hC b_3 zj (rr.mono (l_1 gy _)))
 |ex z=>rw [ef] at o';exact EXof.in o'
 |no=>rw [ef] at o';exact o'
end
section
variable{K:Frag}{G:Hp}{a:Addr}{vs:List V}{ds:List D}
end
section
variable{X:Cx}{EX:EXS}{pos:Pos}
end
end L3
namespace L3
open PySem L2 Builtin Builtin.Str
variable{K:Frag}{fd:FuncData}{mg:Str→Option Value}{P:Program}{vs:List V}{us:List Value}{base:Heap}{H:Hp}{X:Cx}{pos:Pos}{v:V}
theorem cj_7{x y:Str}(h:x.cps.toList=y.cps.toList):x=y:=by
 obtain⟨a⟩:=x;obtain⟨b⟩:=y;simp only at h;have:a=b:=by
  have:=congrArg List.toArray h;simpa using this
 rw [this]
theorem av_7(x:Str):x.length=x.cps.toList.length:=by simp [Str.length]
theorem dj_3(x y:Str):(x ++ y).cps.toList=x.cps.toList ++ y.cps.toList:=by
 show(Str.append x y).cps.toList=_;simp [Str.append]
def cy_4(n:Nat)(d:Int):Option Int→Int
 |none=>d
 |some i=>max 0 (min (if i < 0 then i + (n:Int) else i) (n:Int))
theorem bw_0(n d:Nat)(o:Option Int):cy_4 n (d:Int) o=((HT.sIx n d o:Nat):Int):=by
 cases o with
 |none=>rfl
 |some v=>
  show max 0 (min (if v < 0 then v + (n:Int) else v) (n:Int))=(((if v < 0 then(v + (n:Int)).toNat else min v.toNat n):Nat):Int)
  by_cases hv:v < 0
  ·simp only [if_pos hv];omega
  ·simp only [if_neg hv];omega
theorem ce_0(lo hi:Option Int)(n:Nat):strSliceIndices lo hi 1 n=(List.range (HT.sIx n n hi - HT.sIx n 0 lo)).map (HT.sIx n 0 lo + ·):=by
 have e:strSliceIndices lo hi 1 n=sliceRange (cy_4 n ((0:Nat):Int) lo) (cy_4 n (n:Int) hi) 1:=by
  unfold strSliceIndices;simp only [show((1:Int) > 0)=True from by simp,if_true];cases lo <;> cases hi <;> rfl
 rw [e,bw_0,bw_0,sliceRange_one]
theorem ce_1(x:Str)(lo hi:Option Int):(Txt.slice x lo hi).cps.toList=cutL x.cps.toList lo hi:=by
 unfold Txt.slice cutL;rw [ce_0];have hl:x.cps.toList.length=x.length:=(av_7 x).symm;rw [hl];have p:=pick_run x.cps (HT.sIx x.length 0 lo) (HT.sIx x.length x.length hi - HT.sIx x.length 0 lo)
 split
 ·rename_i h;have h':((List.range (HT.sIx x.length x.length hi - HT.sIx x.length 0 lo)).map (HT.sIx x.length 0 lo + ·)).length=x.length:=by
   simpa using h
  rw [List.length_map,List.length_range] at h';have h3:=HT.sIx_le x.length x.length (Nat.le_refl _) hi;have h4:=HT.sIx_le x.length 0 (Nat.zero_le _) lo;have e0:HT.sIx x.length 0 lo=0:=by omega
  rw [h',e0,List.drop_zero,List.take_of_length_le (by omega)]
 ·rw [p]
end L3
namespace L3
open PySem L2
variable{K:Frag}{fd:FuncData}{mg:Str→Option Value}{P:Program}{vs:List V}{us:List Value}{base:Heap}{H:Hp}{X:Cx}{pos:Pos}{v:V}
theorem f_2(i j:Int):eqD (.int i) (.int j)= .ok (.sh (.bl (decide (i=j)))):=by
 have h:eqvD (.int i) (.int j)=decide (i=j):=by
  show(i ==j)=decide (i=j);rw [Bool.beq_eq_decide_eq]
 show(if eqC (.int i) (.int j)=true then R.ok (W.sh (D.bl (eqvD (.int i) (.int j)))) else .no)=_;rw [if_pos (by rfl),h]
theorem dj_4(i j:Int):neD (.int i) (.int j)= .ok (.sh (.bl (!decide (i=j)))):=by
 have h:eqvD (.int i) (.int j)=decide (i=j):=by
  show(i ==j)=decide (i=j);rw [Bool.beq_eq_decide_eq]
 show(if eqC (.int i) (.int j)=true then R.ok (W.sh (D.bl (!eqvD (.int i) (.int j)))) else .no)=_;rw [if_pos (by rfl),h]
theorem dj_5(x y:Str):eqD (.str x) (.str y)= .ok (.sh (.bl (decide (x=y)))):=rfl
theorem cj_8(x y:Str):neD (.str x) (.str y)= .ok (.sh (.bl (!decide (x=y)))):=rfl
theorem i_6{i j:Int}(h1: -18446744073709551616 < i)(h2:i < 18446744073709551616):mulC i j=true:=decide_eq_true (.inl (by omega))
theorem ac_8{i j:Int}(h1: -18446744073709551616 < j)(h2:j < 18446744073709551616):mulC i j=true:=decide_eq_true (.inr (by omega))
theorem e_0{i j:Int}(h:mulC i j=true):g_0 (.int i) (.int j)= .ok (.sh (.int (i * j))):=by unfold g_0 intD;simp only [h,if_true]
theorem e_5(i j:Int):d_8 (.int i) (.int j)= .ok (.sh (.int (i + j))):=rfl
theorem aa_1(i j:Int):subD (.int i) (.int j)= .ok (.sh (.int (i - j))):=rfl
theorem m_4{i j:Int}(h1:0 < j)(h2:j < 1361129467683753853853498429727072845824):v_4 (.int i) (.int j)= .ok (.sh (.int (i / j))):=by
 exact if_pos (show divC i j=true from decide_eq_true ⟨h1,by omega⟩)
theorem f_3{i j:Int}(h1:0 < j):j_0 (.int i) (.int j)= .ok (.sh (.int (i % j))):=by
 exact if_pos (show modC i j=true from decide_eq_true h1)
theorem ar_5(i j:Int):ltD (.int i) (.int j)= .ok (.sh (.bl (decide (i < j)))):=rfl
theorem cj_9(i j:Int):leD (.int i) (.int j)= .ok (.sh (.bl (decide (i≤j)))):=rfl
theorem cy_5(i j:Int):gtD (.int i) (.int j)= .ok (.sh (.bl (decide (j < i)))):=rfl
theorem dn_1(i j:Int):geD (.int i) (.int j)= .ok (.sh (.bl (decide (j≤i)))):=rfl
theorem cy_6{x y:Str}(h:x.length + y.length≤16777216):d_8 (.str x) (.str y)= .ok (.sh (.str (x ++ y))):=if_pos h
theorem cy_7{i j:Int}(h:powC i j=true):powD (.int i) (.int j)= .ok (.sh (.int (i ^ j.toNat))):=by unfold powD intD;simp only [h,if_true]
theorem bw_1{i j:Int}(h1:0≤j)(h2:j≤1000000)(h3: -18446744073709551616 < i)(h4:i < 18446744073709551616):powC i j=true:=decide_eq_true ⟨h1,by omega,by omega⟩
theorem m_7(ds:List D):h_6 [.lst ds]= .ok (.sh (.int ds.length)):=rfl
theorem ak_7{x:Str}(h:x.length≤16777216):h_6 [.str x]= .ok (.sh (.int x.length)):=if_pos h
theorem dt_6(i j:Int):maxD [.int i, .int j]= .ok (.sh (.int (max i j))):=by
 show R.ok (W.sh (D.int (if j > i then j else i)))=_;rw [show(if j > i then j else i)=max i j by rw [Int.max_def];split <;> split <;> omega]
theorem cy_8(i j:Int):minD [.int i, .int j]= .ok (.sh (.int (min i j))):=by
 show R.ok (W.sh (D.int (if j < i then j else i)))=_;rw [show(if j < i then j else i)=min i j by rw [Int.min_def];split <;> split <;> omega]
theorem ah_9{ds:List D}{i:Int}{d:D}(h:atI ds i=some d):ixD (.lst ds) (.int i)= .ok (.sh d):=by unfold ixD;simp only [h]
theorem ck_0{ds:List D}{i:Int}{d:D}(h:atI ds i=some d):ixD (.tup ds) (.int i)= .ok (.sh d):=by unfold ixD;simp only [h]
theorem dj_6{x:Str}{i:Int}{c:Nat}(hz:x.length≤16777216)(h:atI x.cps.toList i=some c):ixD (.str x) (.int i)= .ok (.sh (.str ⟨#[c]⟩)):=by
 unfold ixD;simp only [h,if_pos hz]
theorem dt_7{α:Type}{xs:List α}{i:Int}{x:α}(h0:0≤i)(h:xs[i.toNat]? =some x):atI xs i=some x:=by
 have hl:i.toNat < xs.length:=(List.getElem?_eq_some_iff.mp h).1;unfold atI ixN;rw [if_pos h0,if_pos (by omega)];exact h
theorem v_1(fg:FG)(g:FS)(I:Nat→SE→Prop){n:Nat}{lo:Int}{Δ:SE}(h0:I 0 Δ)
  (step:∀k Δ,k < n→I k Δ→∃Δ1,fg (.int (lo + (k:Int))) Δ= .ok Δ1∧∃Δ2,(g Δ1= .nx Δ2∨g Δ1= .ct Δ2)∧I (k + 1) Δ2):∃Δ',l_2 fg g (b_5 lo n) Δ= .nx Δ'∧I n Δ':=by
 have all:∀(m k:Nat) (Δ:SE),k + m=n→I k Δ→∃Δ',l_2 fg g ((List.range' k m).map fun(j:Nat)=>D.int (lo + (j:Int))) Δ= .nx Δ'∧I n Δ':=by
  intro m
  induction m with
  |zero=>intro k Δ e h;exact⟨Δ,rfl,by rw [←e];exact h⟩
  |succ m ih=>
   intro k Δ e h;obtain⟨Δ1,e1,Δ2,e2,h2⟩:=step k Δ (by omega) h;obtain⟨Δ',e3,h3⟩:=ih (k + 1) Δ2 (by omega) h2;refine⟨Δ', ?_,h3⟩;rw [List.range'_succ,List.map_cons];show(match fg (.int (lo + (k:Int))) Δ with
    | .ok Δ1=>(match g Δ1 with
     | .nx Δ2=>l_2 fg g _ Δ2
     | .ct Δ2=>l_2 fg g _ Δ2
     | .bk Δ2=> .nx Δ2
     |r=>r)
    | .ex _=> .no
    | .no=> .no)=_
   rw [e1];rcases e2 with e2|e2
   ·simp only [e2];exact e3
   ·simp only [e2];exact e3
 obtain⟨Δ',e,h⟩:=all n 0 Δ (by omega) h0;refine⟨Δ', ?_,h⟩;unfold b_5;rw [List.range_eq_range'];exact e
theorem f_6(fg:FG)(g:FS)(I:Nat→SE→Prop){ds:List D}{Δ:SE}(h0:I 0 Δ)
  (step:∀k d Δ,ds[k]? =some d→I k Δ→∃Δ1,fg d Δ= .ok Δ1∧∃Δ2,(g Δ1= .nx Δ2∨g Δ1= .ct Δ2)∧I (k + 1) Δ2):∃Δ',l_2 fg g ds Δ= .nx Δ'∧I ds.length Δ':=by
 have all:∀(m k:Nat) (Δ:SE),k + m=ds.length→I k Δ→∃Δ',l_2 fg g (ds.drop k) Δ= .nx Δ'∧I ds.length Δ':=by
  intro m
  induction m with
  |zero=>
   intro k Δ e h;rw [List.drop_eq_nil_of_le (by omega)];exact⟨Δ,rfl,by rw [←e];exact h⟩
  |succ m ih=>
   intro k Δ e h;obtain⟨d,d1,d2⟩:=ac_4 (l:=ds) (i:=k) (by omega);obtain⟨Δ1,e1,Δ2,e2,h2⟩:=step k d Δ d1 h;obtain⟨Δ',e3,h3⟩:=ih (k + 1) Δ2 (by omega) h2;refine⟨Δ', ?_,h3⟩;rw [d2];show(match fg d Δ with
    | .ok Δ1=>(match g Δ1 with
     | .nx Δ2=>l_2 fg g (ds.drop (k + 1)) Δ2
     | .ct Δ2=>l_2 fg g (ds.drop (k + 1)) Δ2
     | .bk Δ2=> .nx Δ2
     |r=>r)
    | .ex _=> .no
    | .no=> .no)=_
   rw [e1];rcases e2 with e2|e2
   ·simp only [e2];exact e3
   ·simp only [e2];exact e3
 have:=all ds.length 0 Δ (by omega) h0
 rwa [List.drop_zero] at this
theorem bh_7{fg:FGc}{p:FT}{f:FE}{δ:DE}{F:Int→D}:∀(n:Nat) (lo:Int),(∀k:Nat,k < n→∃δ1 w,fg (.int (lo + (k:Int))) δ= .ok δ1∧p δ1= .ok true∧f δ1= .ok w∧w.d=F (lo + (k:Int)))→
  n_0 fg p f δ (b_5 lo n)= .ok ((List.range n).map fun(k:Nat)=>F (lo + (k:Int))):=by
 have all:∀(es:List Nat) (lo:Int),(∀k∈es,∃δ1 w,fg (.int (lo + ((k:Nat):Int))) δ= .ok δ1∧p δ1= .ok true∧f δ1= .ok w∧w.d=F (lo + (k:Int)))→
   n_0 fg p f δ (es.map fun(k:Nat)=>D.int (lo + (k:Int)))= .ok (es.map fun(k:Nat)=>F (lo + (k:Int))):=by
  intro es lo
  induction es with
  |nil=>intro _;rfl
  |cons k es ih=>
   intro h;obtain⟨δ1,w,e1,e2,e3,e4⟩:=h k List.mem_cons_self;have e5:=ih fun j hj=>h j (List.mem_cons_of_mem _ hj);rw [List.map_cons,List.map_cons];show((fg (.int (lo + (k:Int))) δ).bind fun δ1=>(p δ1).bind fun b=>if b=true then(f δ1).bind fun w=>(n_0 fg p f δ _).bind fun rs=> .ok (w.d::rs) else n_0 fg p f δ _)=_;rw [e1];simp only [R.bind_ok,e2,if_true,e3];rw [e5];simp only [R.bind_ok,e4]
 intro n lo h;exact all (List.range n) lo fun k hk=>h k (List.mem_range.mp hk)
theorem r_3{j:Int}(h1: -4611686018427387903≤j)(h2:j < 4611686018427387904):n_7 [.int j]= .ok (b_5 0 j.toNat):=by
 have h:j.natAbs < 4611686018427387904:=by omega
 exact if_pos h
theorem ck_1{i j:Int}(h1: -4611686018427387903≤i)(h2:i < 4611686018427387904)(h3: -4611686018427387903≤j)(h4:j < 4611686018427387904):rng2 [.int i, .int j]= .ok (b_5 i (j - i).toNat):=by
 have h:i.natAbs < 4611686018427387904∧j.natAbs < 4611686018427387904:=⟨by omega,by omega⟩;exact if_pos h
theorem g_4{m:Nat}{fi:FI}{fg:FGc}{p:FT}{f:FE}{δ:DE}{ds rs:List D}(h:fi δ= .ok ds)(hl:ds.length≤16777216)(hc:n_0 fg p f (δ ++ List.replicate m none) ds= .ok rs):c_1 m fi fg p f δ= .ok (.ow (.lst rs)):=by
 unfold c_1;rw [h];simp only [R.bind_ok];rw [if_pos hl,hc];rfl
theorem bw_2{js:List Nat}{p:FT}{g:FS}{n:Nat}{Δ Δ':SE}(h1:p (vall Δ)= .ok true)(h2:g Δ= .nx Δ'):i_4 js p g (n + 1) Δ=i_4 js p g n Δ':=by
 show(match p (vall Δ) with
  | .ok b=>if b=true then(match g Δ with
    | .nx Δ'=>i_4 js p g n Δ'
    | .ct Δ'=>i_4 js p g n Δ'
    | .bk Δ'=> .nx Δ'
    |r=>r) else .nx Δ
  | .ex _=>exT js p Δ
  | .no=> .no)=_
 rw [h1];simp only [if_true,h2]
theorem ap_3{js:List Nat}{p:FT}{g:FS}{n:Nat}{Δ:SE}(h1:p (vall Δ)= .ok false):i_4 js p g (n + 1) Δ= .nx Δ:=by
 show(match p (vall Δ) with
  | .ok b=>if b=true then(match g Δ with
    | .nx Δ'=>i_4 js p g n Δ'
    | .ct Δ'=>i_4 js p g n Δ'
    | .bk Δ'=> .nx Δ'
    |r=>r) else .nx Δ
  | .ex _=>exT js p Δ
  | .no=> .no)=_
 rw [h1];simp only [Bool.false_eq_true,if_false]
theorem cy_9(d:D):Sl.pub (.sh d)=some d:=rfl
theorem cz_0(d:D):Sl.pub (.ow d)=none:=rfl
theorem cz_1:Sl.pub .no=none:=rfl
theorem ay_6(d:D):Sl.any (.sh d)=some d:=rfl
theorem ce_2(d:D):Sl.any (.ow d)=some d:=rfl
theorem dt_8:Sl.any .no=none:=rfl
theorem dj_7(d:D):Sl.give (.sh d)= .sh d:=rfl
theorem dj_8(d:D):Sl.give (.ow d)= .sh d:=rfl
theorem dj_9:Sl.give .no= .no:=rfl
theorem a_9{g h:FS}{Δ Δ':SE}(e:g Δ= .nx Δ'):sSeq g h Δ=h Δ':=by unfold sSeq;rw [e]
theorem r_4{n:Nat}{g:FS}{ds:List D}{w:W}(e:g (start3 n ds)= .rt w):bodyD n g ds= .ok w:=by unfold bodyD;rw [e]
theorem s_6{fg:FGc}{p:FT}{f:FE}{δ:DE}(P:D→Bool)(F:D→D):∀(ds:List D),(∀d∈ds,∃δ1,fg d δ= .ok δ1∧p δ1= .ok (P d)∧(P d=true→∃w,f δ1= .ok w∧w.d=F d))→
  n_0 fg p f δ ds= .ok ((ds.filter P).map F)
 | [],_=>rfl
 |d::ds,h=>by
  obtain⟨δ1,e1,e2,e3⟩:=h d List.mem_cons_self;have ih:=s_6 P F ds fun x hx=>h x (List.mem_cons_of_mem _ hx);show((fg d δ).bind fun δ1=>(p δ1).bind fun b=>if b=true then(f δ1).bind fun w=>(n_0 fg p f δ ds).bind fun rs=> .ok (w.d::rs) else n_0 fg p f δ ds)=_;rw [e1];simp only [R.bind_ok,e2];cases hP:P d with
  |true=>
   obtain⟨w,e4,e5⟩:=e3 hP;rw [if_pos rfl,e4,ih];simp only [R.bind_ok,e5,List.filter_cons_of_pos hP,List.map_cons]
  |false=>
   rw [if_neg Bool.false_ne_true,ih,List.filter_cons_of_neg (by rw [hP];exact Bool.false_ne_true)]
theorem ac_9{fg:FGc}{f:FE}{δ:DE}(F:D→D)(ds:List D)(h:∀d∈ds,∃δ1 w,fg d δ= .ok δ1∧f δ1= .ok w∧w.d=F d):
  n_0 fg (fun _=> .ok true) f δ ds= .ok (ds.map F):=by
 have:=s_6 (fg:=fg) (p:=fun _=> .ok true) (f:=f) (δ:=δ) (fun _=>true) F ds fun d hd=>by
  obtain⟨δ1,w,e1,e2,e3⟩:=h d hd;exact⟨δ1,e1,rfl,fun _=>⟨w,e2,e3⟩⟩
 rw [this,List.filter_eq_self.mpr fun _ _=>rfl]
theorem bm_7:∀(ns:List Int),PyData.canLayAll0 (i_9 (ns.map .int))=true
 | []=>rfl
 |n::ns=>by
  show(PyData.canLay0 (.int n) && PyData.canLayAll0 (i_9 (ns.map .int)))=true;rw [bm_7 ns];rfl
theorem bh_8:∀(ns:List Int),PyData.depthAll (i_9 (ns.map .int))≤0
 | []=>Nat.le_refl _
 |n::ns=>by
  show max (PyData.depth (.int n)) (PyData.depthAll (i_9 (ns.map .int)))≤0;exact Nat.max_le.mpr ⟨Nat.le_refl _,bh_8 ns⟩
theorem cz_2(ns ms:List Int):eqC (.lst (ns.map .int)) (.lst (ms.map .int))=true:=by
 unfold eqC;rw [Bool.and_eq_true,Bool.and_eq_true];refine⟨⟨bm_7 ns,bm_7 ms⟩,decide_eq_true ?_⟩;show PyData.depthAll (i_9 (ns.map .int)) + 1≤60;have:=bh_8 ns;omega
theorem cp_8(x:Str)(a b:Nat)(h1:a≤b)(h2:b≤x.length):(Txt.slice x (some (a:Int)) (some (b:Int))).cps.toList=(x.cps.toList.drop a).take (b - a):=by
 rw [ce_1];unfold cutL;rw [←av_7];have e1:HT.sIx x.length 0 (some (a:Int))=a:=by
  show(if(a:Int) < 0 then((a:Int) + (x.length:Int)).toNat else min (a:Int).toNat x.length)=a;rw [if_neg (by omega)];omega
 have e2:HT.sIx x.length x.length (some (b:Int))=b:=by
  show(if(b:Int) < 0 then((b:Int) + (x.length:Int)).toNat else min (b:Int).toNat x.length)=b;rw [if_neg (by omega)];omega
 rw [e1,e2]
theorem ce_3{js:List Nat}{p:FT}{g:FS}(st:Nat→SE){m fuel:Nat}(hf:m < fuel)(go:∀i,i < m→p (vall (st i))= .ok true∧g (st i)= .nx (st (i + 1)))(stop:p (vall (st m))= .ok false):i_4 js p g fuel (st 0)= .nx (st m):=by
 have all:∀(k i fuel:Nat),i + k=m→k < fuel→i_4 js p g fuel (st i)= .nx (st m):=by
  intro k
  induction k with
  |zero=>
   intro i fuel e hf;obtain⟨f,rfl⟩:∃f,fuel=f + 1:=⟨fuel - 1,by omega⟩;have:i=m:=by omega
   subst this;exact ap_3 stop
  |succ k ih=>
   intro i fuel e hf;obtain⟨f,rfl⟩:∃f,fuel=f + 1:=⟨fuel - 1,by omega⟩;obtain⟨h1,h2⟩:=go i (by omega);rw [bw_2 h1 h2];exact ih (i + 1) f (by omega) (by omega)
 exact all m 0 fuel (by omega) hf
theorem bh_9{α:Type}(f:α→Str):∀l:List α,bh_0 (l.map fun a=> .str (f a))=some (l.map f)
 | []=>rfl
 |a::l=>by
  show(bh_0 (l.map fun a=> .str (f a))).map (f a:: ·)=_;rw [bh_9 f l];rfl
theorem bi_0:∀(l:List Str) (zm:Array Nat),(l.foldl (fun zm p=>zm ++ (Str.ofString "").cps ++ p.cps) zm).toList=zm.toList ++ (l.map fun x=>x.cps.toList).flatten
 | [],zm=>by simp
 |x::l,zm=>by
  rw [List.foldl_cons,bi_0 l];have e:(Str.ofString "").cps= #[]:=rfl;simp [e]
theorem cz_3(l:List Str):(Txt.join (Str.ofString "") l).cps.toList=(l.map fun x=>x.cps.toList).flatten:=by
 unfold Txt.join Builtin.Str.glued;cases l with
 |nil=>rfl
 |cons x l=>
  show(l.foldl (fun zm p=>zm ++ (Str.ofString "").cps ++ p.cps) x.cps).toList=_;rw [bi_0];simp
theorem cz_4{α:Type}(f:α→Str)(l:List α)(h:((l.map f).map (·.length)).sum≤16777216):ar_1 (.str "") [.lst (l.map fun a=> .str (f a))]= .ok (.sh (.str (Txt.join (Str.ofString "") (l.map f)))):=by
 unfold ar_1;simp only [bh_9];have e:Str.length (Str.ofString "")=0:=rfl;exact if_pos (by rw [e];omega)
theorem bw_3:isT "int" .non=some false:=rfl
theorem ce_4(b:Bool):isT "int" (.bl b)=some true:=rfl
theorem bw_4(i:Int):isT "int" (.int i)=some true:=rfl
theorem bw_5(x:Str):isT "int" (.str x)=some false:=rfl
theorem bw_6(l:List D):isT "int" (.lst l)=some false:=rfl
theorem bw_7(l:List D):isT "int" (.tup l)=some false:=rfl
theorem bm_8:isT "bool" .non=some false:=rfl
theorem bw_8(b:Bool):isT "bool" (.bl b)=some true:=rfl
theorem bm_9(i:Int):isT "bool" (.int i)=some false:=rfl
theorem bn_0(x:Str):isT "bool" (.str x)=some false:=rfl
theorem bn_1(l:List D):isT "bool" (.lst l)=some false:=rfl
theorem bn_2(l:List D):isT "bool" (.tup l)=some false:=rfl
theorem bw_9:isT "str" .non=some false:=rfl
theorem ce_5(b:Bool):isT "str" (.bl b)=some false:=rfl
theorem bx_0(i:Int):isT "str" (.int i)=some false:=rfl
theorem bx_1(x:Str):isT "str" (.str x)=some true:=rfl
theorem bx_2(l:List D):isT "str" (.lst l)=some false:=rfl
theorem bx_3(l:List D):isT "str" (.tup l)=some false:=rfl
theorem bn_3:isT "list" .non=some false:=rfl
theorem bx_4(b:Bool):isT "list" (.bl b)=some false:=rfl
theorem bn_4(i:Int):isT "list" (.int i)=some false:=rfl
theorem bn_5(x:Str):isT "list" (.str x)=some false:=rfl
theorem bn_6(l:List D):isT "list" (.lst l)=some true:=rfl
theorem bn_7(l:List D):isT "list" (.tup l)=some false:=rfl
theorem bd_2:isT "tuple" .non=some false:=rfl
theorem bn_8(b:Bool):isT "tuple" (.bl b)=some false:=rfl
theorem bd_3(i:Int):isT "tuple" (.int i)=some false:=rfl
theorem bd_4(x:Str):isT "tuple" (.str x)=some false:=rfl
theorem bd_5(l:List D):isT "tuple" (.lst l)=some false:=rfl
theorem bd_6(l:List D):isT "tuple" (.tup l)=some true:=rfl
end L3
namespace L3
open PySem PySem.Spec PyProof.Rows L2
variable{K:Frag}{fd:FuncData}{mg:Str→Option Value}{P:Program}{vs:List V}{us:List Value}{base:Heap}{H:Hp}{X:Cx}{pos:Pos}{v:V}
def bn_9:List Value→Bool
 | .ref _::r=>bn_9 r
 |l=>l == [.type "ValueError", .type "Exception", .type "BaseException", .type "object"]
theorem ag_0(self:Value):∀{l:List Value},bn_9 l=true→refuseLoop self "__setattr__" l=pure ()
 | [],e=>by cases e
 | .ref c::r,e=>by rw [refuseLoop_ref];exact ag_0 self e
 | .type n::r,e=>by
  have e':(Value.type n::r)= [.type "ValueError", .type "Exception", .type "BaseException", .type "object"]:=eq_of_beq e;rw [e'];exact PySem.F.store_ValueError.passes self
 | .none::r,e=>by cases(eq_of_beq (show((Value.none::r) == [.type "ValueError", .type "Exception", .type "BaseException", .type "object"])=true from e))
 | .bool b::r,e=>by cases(eq_of_beq (show((Value.bool b::r) == [.type "ValueError", .type "Exception", .type "BaseException", .type "object"])=true from e))
 | .int b t::r,e=>by cases(eq_of_beq (show((Value.int b t::r) == [.type "ValueError", .type "Exception", .type "BaseException", .type "object"])=true from e))
 | .str b t::r,e=>by cases(eq_of_beq (show((Value.str b t::r) == [.type "ValueError", .type "Exception", .type "BaseException", .type "object"])=true from e))
 | .builtin b::r,e=>by cases(eq_of_beq (show((Value.builtin b::r) == [.type "ValueError", .type "Exception", .type "BaseException", .type "object"])=true from e))
theorem ay_7:∀{l:List Value},bn_9 l=true→l.contains (.type "object")=true∧l.isEmpty=false
 | [],e=>by cases e
 | .ref c::r,e=>⟨by rw [List.contains_cons,(ay_7 (l:=r) e).1,Bool.or_true],rfl⟩
 | .type n::r,e=>by
  have e':(Value.type n::r)= [.type "ValueError", .type "Exception", .type "BaseException", .type "object"]:=eq_of_beq e;rw [e'];exact⟨by decide,rfl⟩
 | .none::r,e=>by cases(eq_of_beq (show((Value.none::r) == [.type "ValueError", .type "Exception", .type "BaseException", .type "object"])=true from e))
 | .bool b::r,e=>by cases(eq_of_beq (show((Value.bool b::r) == [.type "ValueError", .type "Exception", .type "BaseException", .type "object"])=true from e))
 | .int b t::r,e=>by cases(eq_of_beq (show((Value.int b t::r) == [.type "ValueError", .type "Exception", .type "BaseException", .type "object"])=true from e))
 | .str b t::r,e=>by cases(eq_of_beq (show((Value.str b t::r) == [.type "ValueError", .type "Exception", .type "BaseException", .type "object"])=true from e))
 | .builtin b::r,e=>by cases(eq_of_beq (show((Value.builtin b::r) == [.type "ValueError", .type "Exception", .type "BaseException", .type "object"])=true from e))
structure XCls(K:Frag)(C:Addr):Prop where
 sa:findIn K (.ref C) "__setattr__" =some (some (.builtin "object.__setattr__"))
 over:(clsIn K C).any (fun cd=>bn_9 cd.mro && cd.hasDict)=true
section
variable{prog:Program}{w:World}{A:Around}{E:Value→Shared→Prop}{s:Shared}{K:Frag}{x C:Addr}{R:Result→Shared→Prop}
theorem dk_0{ox:Obj}{od:Option Obj}{name:Str}{tk:Tok}{v:Value}(X:K.In s.heap)(I:InstAt s.heap x ox C od)(xc:XCls K C)(ha:findIn K (.ref C) name=some none)
  (h:wpAny (model prog w) A.in1 (Builtin.ObjectAttr.storeInOwnDict (.ref x) (.ref C) (.str name tk) name v false)
   (fun fin s'=>match fin with| .done f=>R (.ok f) s'| .again c'=>c'.quiet=true∧codeAny (model prog w) A c' R s') (fun e s'=>R (.error e) s') s):
  codeAny (model prog w) A (.call (.builtin "object.__setattr__") ⟨[.ref x, .str name tk,v], []⟩) R s:=by
 have SF:=PySem.F.store_object;obtain⟨cd,hc,ho⟩:=any_some xc.over;rw [Bool.and_eq_true] at ho;obtain⟨hs1,hs2⟩:=ay_7 ho.1;have sub:Looks (model prog w) s.heap (isInstance (.ref x) (.type "object")) true:=I.type.andThen (looks_mroIn X (by unfold mroIn;rw [hc,Option.bind_some,if_neg (by rw [hs2];decide),hs1]));refine codeAny_call_builtin SF.slot.plain SF.entry (@check_slot (model prog w) _ _ s "object.__setattr__" "object" "__setattr__" (.ref x) [.str name tk,v] [] _ SF.kind SF.split sub (SF.args (.ref x) (.str name tk) v) ?_);have hm:Looks (model prog w) s.heap (mroOf (.ref C)) cd.mro:=(looks_clsIn X hc).andThen .now;rw [osa_eq,refuse_eq];refine wpAny_bind (wpAny_bind (I.type.here (wpAny_bind (hm.here ?_))));rw [ag_0 _ ho.1];refine wpAny_pure (wpAny_bind (I.type.here (wpAny_bind ((looks_findIn X ha).here (wpAny_bind (wpAny_pure (a:=(none:Option Value)) ?_))))));exact h
theorem cp_9{D:Addr}{name:Str}{tk:Tok}{v:Value}{Q:PySem.Fin→Shared→Prop}(hD:s.heap.get? D=some {cls:= .type "dict",data:= .dict #[]})
  (h:∀h' tk,h'.Ns1 D (fun y=>if y=name then some v else none)→Heap.SameBut D s.heap h'→Q (.done (.ret .none)) {s with heap:=h',toks:=tk}):wpAny (model prog w) A (Builtin.ObjectAttr.storeInDict D (.str name tk) name v) Q E s:=by
 have bu:s.heap.Ns D fun _=>none:=⟨_, #[],_,hD,rfl,fun _ he=>(Array.not_mem_empty _ he).elim,fun _=>rfl⟩;unfold Builtin.ObjectAttr.storeInDict Builtin.ObjectAttr.newKeyGuard
 wp_walk using wpAny_nsSet1 (Heap.Ns1.of_empty bu)
 intro h' n sb;obtain⟨o,es,ep,at1,is1,few⟩:=n.count (.cons name v .nil);have le:es.size≤sizeLine + 1:=Nat.le_trans few (by simp [sizeLine_eq]);exact wpAny_bind (wpAny_lookBehind at1 (is1▸pastItsLine_dict le) (wpAny_pure (h h' _ n sb)))
theorem bx_5{name:Str}{v:Value}{us:Array Value}{Q:Unit→Shared→Prop}(X:K.In s.heap)(hx:s.heap.get? x=some ⟨.ref C,none, .fields us, #[]⟩)(xc:XCls K C)(ha:findIn K (.ref C) name=some none)
  (h:∀h' tk,h'.get? x=some ⟨.ref C,some s.heap.objs.size, .fields us, #[]⟩→h'.Ns1 s.heap.objs.size (fun y=>if y=name then some v else none)→(∀b o,b≠x→s.heap.get? b=some o→h'.get? b=some o)→Q () {s with heap:=h',toks:=tk}):
  wpAny (model prog w) A (setAttr (.ref x) name v) Q E s:=by
 have I:InstAt s.heap x ⟨.ref C,none, .fields us, #[]⟩ C none:=⟨hx,rfl,rfl,True.intro⟩;refine set_plain X I xc.sa (dk_0 (s:={s with toks:=s.toks + 1}) X I xc ha ?_);obtain⟨cd,hc,hd'⟩:=any_some xc.over;rw [Bool.and_eq_true] at hd';refine wpAny_bind (wpAny_pure (wpAny_bind (wpAny_bind (wpAny_loadPart (s:={s with toks:=s.toks + 1}) hx (wpAny_bind (Looks.here (s:={s with toks:=s.toks + 1}) (looks_clsIn X hc) ?_))))));rw [hd'.2]
 
 have neD:x≠s.heap.objs.size:=Nat.ne_of_lt (Heap.lt_size hx);have old:∀b o,b≠x→s.heap.get? b=some o→((s.heap.push {cls:= .type "dict",data:= .dict #[]}).update x fun o=>{o with dict:=some s.heap.objs.size}).get? b=some o:=fun b o hb e=>by
  rw [Heap.get?_update_ne _ _ _ _ hb];exact Heap.get?_push_of_some _ e
 have itself:=Heap.get?_update_self (fun o:Obj=>{o with dict:=some s.heap.objs.size}) (Heap.get?_push_of_some {cls:= .type "dict",data:= .dict #[]} hx) rfl;have isD:((s.heap.push {cls:= .type "dict",data:= .dict #[]}).update x fun o=>{o with dict:=some s.heap.objs.size}).get? s.heap.objs.size=some {cls:= .type "dict",data:= .dict #[]}:=by
  rw [Heap.get?_update_ne _ _ _ _ (Ne.symm neD)];exact Heap.get?_push_size _ rfl
 refine wpAny_bind (wpAny_alloc' (wpAny_bind (wpAny_update' (Heap.get?_push_of_some _ hx) (wpAny_pure (cp_9 isD fun h' tk n sb=>h h' tk ?_ n fun b o hb e=> ?_)))))
 ·rw [sb.2 x neD];exact itself
 ·rw [sb.2 b (Nat.ne_of_lt (Heap.lt_size e))];exact old b o hb e
end
def XE(a:Addr)(o:Obj):HO:= .ext fun h=>h.get? a=some o
theorem XE.ok{w:World}{h:Heap}{a:Addr}{o:Obj}(e:h.get? a=some o):ObjOk P w H h a (XE a o):=⟨e,⟨o,e⟩,fun _ _ p k=>k _ p⟩
theorem XE.get{w:World}{h:Heap}{a:Addr}{o:Obj}(x:HOk P w H h)(e:H a=some (XE a o)):h.get? a=some o:=(x a _ e).1
theorem XO.ok{w:World}{h:Heap}{a C:Addr}{dx:Option Addr}{us:Array Value}{sl:Array (Option Value)}(e:h.get? a=some ⟨.ref C,dx, .fields us,sl⟩):ObjOk P w H h a (XO a C dx):=
 ⟨⟨us,sl,e⟩,⟨_,e⟩,fun _ _ ⟨us,sl,p⟩ k=>⟨us,sl,k _ p⟩⟩
section
variable{X:Cx}{zc:List (Addr×Obj)}{σ:Sg}{H:Hp}{s:Shared}
theorem Inv.excSet{a:Addr}{o0 o1:Obj}{h':Heap}{t':Nat}{fs:List (Str×V)}{mA:Str→Option Value}(I:Inv X zc σ H s)(e:H a=some (XE a o0))(hx:h'.get? a=some o1)(hn:h'.Ns1 s.heap.objs.size mA)(hr:∀f,RelO (fs.lookup f) (mA f))
  (k:∀b o,b≠a→s.heap.get? b=some o→h'.get? b=some o):Inv X zc σ (upd (upd H s.heap.objs.size (.xd fs)) a (XE a o1)) {s with heap:=h',toks:=t'}:=by
 have hf:H s.heap.objs.size=none:=I.hok.fresh (Nat.le_refl _);have other:∀b u,H b=some u→b≠a→(upd (upd H s.heap.objs.size (.xd fs)) a (XE a o1)) b=some u:=fun b u q n=>by
  rw [b_0 n,b_0 (d_5 q hf)];exact q
 refine I.un (h':=h') ⟨fun b o q n _ _=>k b o (fun z=>by subst z;rw [e] at n;cases n) q,fun b o q n _ _=>⟨o.slots,k b o (fun z=>by subst z;rw [e] at n;cases n) q⟩,fun b o q n _=> ?_,fun b o q _=> ?_,fun b xs q=> ?_,fun b o u q=> ?_,fun b ps q=> ?_⟩ fun b u q=> ?_
 ·rw [b_0 (fun z=>by subst z;rw [e] at n;cases n),b_0 (Nat.ne_of_lt (Heap.lt_size q))];exact n
 ·by_cases z:b=a
  ·subst z;exact⟨_,hx⟩
  ·exact⟨_,k b o z q⟩
 ·exact other b _ q fun z=>by subst z;rw [e] at q;cases q
 ·exact other b _ q fun z=>by subst z;rw [e] at q;cases q
 ·exact⟨#[],by rw [other b _ q fun z=>by subst z;rw [e] at q;cases q];simp⟩
 ·by_cases z:b=a
  ·subst z;rw [b_3] at q;cases q;exact XE.ok hx
  ·rw [b_0 z] at q
   by_cases z2:b=s.heap.objs.size
   ·subst z2;rw [b_3] at q;cases q;exact⟨mA,hn,hr⟩
   ·rw [b_0 z2] at q;refine(I.hok b u q).stay (fun c v hc z3=>k c v ?_ z3) (fun c z3=>other c _ z3 fun z4=> ?_) fun c xs z3=>other c _ z3 fun z4=> ?_
    ·rcases hc with rfl|hc
     ·exact z
     ·exact fun z4=>by subst z4;rw [e] at hc;cases hc
    ·subst z4;rw [e] at z3;cases z3
    ·subst z4;rw [e] at z3;cases z3
theorem Inv.forget{a:Addr}{φ:Heap→Prop}(I:Inv X zc σ (upd H a (.ext φ)) s)(hn:H a=none):Inv X zc σ H s:=by
 have sub:∀b u,H b=some u→upd H a (.ext φ) b=some u:=fun b u e=>by rw [b_0 (d_5 e hn)];exact e
 have nf:∀b,upd H a (.ext φ) b=none→H b=none:=fun b e=>by
  by_cases z:b=a
  ·subst z;exact hn
  ·rw [b_0 z] at e;exact e
 have bk:∀b u,upd H a (.ext φ) b=some u→(∀ψ,u≠ .ext ψ)→H b=some u:=fun b u e n=>by
  by_cases z:b=a
  ·subst z;rw [b_3] at e;cases e;exact absurd rfl (n φ)
  ·rw [b_0 z] at e;exact e
 have B:=I.base;refine⟨I.ok,I.os,I.bare,⟨B.keep,B.slot,fun b u q n x=>nf b (B.free b u q n x),B.there,fun b xs q=>bk _ _ (B.tups b xs q) (fun _ z=>nomatch z),fun b u v q=>bk _ _ (B.frzs b u v q) (fun _ z=>nomatch z),fun b ps q=> ?_⟩,I.loc,I.cell,nf _ I.free,fun x c e=>nf _ (I.freeC x c e),fun p hp=> ?_,fun b u e=> ?_,I.len⟩
 ·obtain⟨more,z⟩:=B.tbls b ps q;exact⟨more,bk _ _ z (fun _ z=>nomatch z)⟩
 ·obtain⟨p1,p2,p3⟩:=I.pin p hp;exact⟨p1,nf _ p2,p3⟩
 ·exact(I.hok b u (sub b u e)).stay (fun _ _ _ q=>q) (fun c q=>bk _ _ q (fun _ z=>nomatch z)) (fun c xs q=>bk _ _ q (fun _ z=>nomatch z))
end
def ai_0(C:Addr)(f:Str):Sp:=fun vs H Q _=>∃a v us,vs= [.ref a,v]∧H a=some (XE a ⟨.ref C,none, .fields us, #[]⟩)∧∀d,H d=none→d≠a→Q .non (upd (upd H d (.xd [(f,v)])) a (XE a ⟨.ref C,some d, .fields us, #[]⟩))
section
variable{X:Cx}{C:Addr}{f:Str}{pos pos' p1 p2:Pos}{x y:Str}
def dn_2(C:Addr)(f:Str):TS:=fun D σ H=>∃a v us,σ[0]? =some (some (.ref a))∧σ[1]? =some (some v)∧H a=some (XE a ⟨.ref C,none, .fields us, #[]⟩)∧∀d,H d=none→d≠a→D.nx σ (upd (upd H d (.xd [(f,v)])) a (XE a ⟨.ref C,some d, .fields us, #[]⟩))
theorem av_8(xc:XCls X.K C)(hn:findIn X.K (.ref C) f=some none)(ho:PE X (.Name x p1) (tVar 0))(hv:PE X (.Name y p2) (tVar 1))(hs:swapsWith (.Name y p2) (some (.Attribute (.Name x p1) f pos')) pos.line X.env=pure false:=by rfl):
  PS X (.Assign [.Attribute (.Name x p1) f pos'] (.Name y p2) pos) (dn_2 C f):=by
 intro zc s σ H D I h;obtain⟨a,v,us,e0,e1,ha,q⟩:=h;refine plainObj_wpAny_Assign_Attribute (thn (hv zc s σ H (fun y H1=>y=v∧H1=H) I ⟨v,e1,rfl,rfl⟩) fun u s1 ⟨y,H1,I1,ry,ey,eH⟩=>thn (ho zc s1 σ H1 (fun y H2=>y= .ref a∧H2=H) I1 ⟨.ref a,e0,rfl,eH⟩) fun ov s2 ⟨x,H2,I2,rx,ex,eH2⟩=> ?_) hs;subst ey ex eH eH2;obtain rfl:ov=Value.ref a:=rx;refine bx_5 I2.kIn (XE.get I2.hok ha) xc hn fun h' tk g1 g2 g3=> ?_;refine⟨σ,_,Inv.excSet I2 (t':=tk) (fs:= [(f,y)]) ha g1 g2 (fun g=> ?_) g3,q _ (I2.hok.fresh (Nat.le_refl _)) ?_⟩
 ·show RelO ([(f,y)].lookup g) (if g=f then some u else none)
  by_cases z:g=f
  ·subst z;rw [if_pos rfl];simp only [List.lookup_cons,beq_self_eq_true];exact ry
  ·rw [if_neg z];have zb:(g ==f)=false:=by simpa using z
   simp only [List.lookup_cons,zb,List.lookup_nil]
   trivial
 ·exact Nat.ne_of_gt (Heap.lt_size (XE.get I2.hok ha))
end
abbrev bmVE:List Value:= [.type "ValueError", .type "Exception", .type "BaseException", .type "object"]
def e_8(es:Array DictEntry):Bool:=es.toList.all fun e=>match e.key with| .str _ _=>true|_=>false
theorem ce_6{es:Array DictEntry}(h:e_8 es=true):StrKeys es:=fun e he=>by
 have q:=List.all_eq_true.mp h e (Array.mem_toList_iff.mpr he);revert q;cases hk:e.key with
 |str n t=>intro _;exact⟨n,t,rfl⟩
 |_=>intro q;cases q
theorem ck_2{N:Addr}{oc:Value}{od:Option Addr}{es:Array DictEntry}{ep:Nat}{sl:Array (Option Value)}(l:K.lookup N=some ⟨oc,od, .dict es ep,sl⟩)(k:e_8 es=true){h:Heap}(X:K.In h):h.Ns N (nsFind es):=
 ⟨_,es,ep,X _ _ l,rfl,ce_6 k,fun _=>rfl⟩
def XMk(K:Frag)(C fI:Addr):Prop:=∃(nm q:Str) (N:Addr) (bs bm:List Value) (sn:List Str) (sub:List Value) (ab:Bool) (col:Option Bool) (dd:Option Addr) (k0 k1 k2 k3 k5:Option Value) (mN:Str→Option Value),
 K.lookup C=some (excClassObj nm q C N bs bm true sn sub ab col dd k0 k1 k2 k3 k5 "ValueError.__new__")∧(∀h:Heap,K.In h→OwnTail h bmVE bm)∧(∀h:Heap,K.In h→h.Ns N mN)∧mN "__init__" =some (.ref fI)
theorem bo_0{C fI N L:Addr}{nm q:Str}{bs:List Value}{sn:List Str}{sub:List Value}{ab:Bool}{col:Option Bool}{dd:Option Addr}{k0 k1 k2 k3 k5:Option Value}{oc c0 oL:Value}{od ddL odL:Option Addr}{es esL:Array DictEntry}{ep epL:Nat}{sl sl0 slL:Array (Option Value)}{cd:ClassData}
  (lc:K.lookup C=some (excClassObj nm q C N bs (.ref L::bmVE) true sn sub ab col dd k0 k1 k2 k3 k5 "ValueError.__new__")) (ln:K.lookup N=some ⟨oc,od, .dict es ep,sl⟩) (kn:e_8 es=true) (hi:nsFind es "__init__" =some (.ref fI))
  (ll:K.lookup L=some ⟨c0,ddL, .cls cd,sl0⟩) (lm:K.lookup cd.ns=some ⟨oL,odL, .dict esL epL,slL⟩) (km:e_8 esL=true) (hL:nsFind esL "__init__" =none):XMk K C fI:=
 ⟨nm,q,N,bs,_,sn,sub,ab,col,dd,k0,k1,k2,k3,k5,nsFind es,lc,fun h X=> .own (X _ _ ll) (ck_2 lm km X) hL .base,fun h X=>ck_2 ln kn X,hi⟩
theorem av_9{C N L:Addr}{nm q:Str}{bs:List Value}{sn:List Str}{sub:List Value}{ab:Bool}{col:Option Bool}{dd:Option Addr}{k0 k1 k2 k3 k5:Option Value}
  (lc:K.lookup C=some (excClassObj nm q C N bs (.ref L::bmVE) true sn sub ab col dd k0 k1 k2 k3 k5 "ValueError.__new__")) (sa:findIn K (.ref C) "__setattr__" =some (some (.builtin "object.__setattr__"))):XCls K C:=
 ⟨sa,by unfold clsIn;rw [lc];rfl⟩
theorem aw_0{c:Bool}{w:World}{x qual sf at_ fl:Str}{st:Stmt}{f C:Addr}{k:Nat}(F:Fun K x qual st f fd)(S:FnScope [sf,at_] [sf,at_] (b_2 st))
  (zh:∀(zn:Value) (A:Around) (outer:List Env) (s:Shared) (H:Hp) (E:XK),PSs (cxN c P w K mg base [sf,at_] qual (b_2 st) f zn A outer s H E) (e_1 st) (dn_2 C fl)):FnX P w K mg base c (k + 1) f fd [sf,at_] (ai_0 C fl):=by
 refine Fun.okX F S (fun vs H Q E h=> ?_) fun zn A outer s H vs Q E hr h=>⟨_,zh zn A outer s H E, ?_⟩
 ·obtain⟨a,v,us,rfl,_⟩:=h;rfl
 ·obtain⟨a,v,us,rfl,ha,q⟩:=h;exact⟨a,v,us,rfl,rfl,ha,q⟩
theorem ap_5{h:Heap}:∀{bm:List Value},OwnTail h bmVE bm→bm.contains (.type "BaseException")=true
 |_, .base=>by decide
 |_, .own _ _ _ t=>by rw [List.contains_cons,ap_5 t,Bool.or_true]
structure XC(P:Program)(w:World)(K:Frag)(mg:Str→Option Value)(base:Heap)(c:Str)(f:Str)(C:Addr):Prop where
 at_:ClsAt K c C
 glob:mg c=some (.ref C)
 kp:keepIn K (.ref C)=true
 xc:XCls K C
 made:∃(fI:Addr) (fd:FuncData) (ps:List Str) (oI:Obj),XMk K C fI∧K.lookup fI=some oI∧oI.cls= .type "function" ∧FnX P w K mg base false 1 fI fd ps (ai_0 C f)∧Binds K fd ps []
section
variable{X:Cx}{zc:List (Addr×Obj)}{σ:Sg}{H:Hp}{s:Shared}{C:Addr}{c f:Str}
theorem cz_5{e d:Addr}{o0 o1 x:HO}:upd (upd (upd H e o0) d x) e o1=upd (upd H d x) e o1:=by
 funext b
 unfold upd
 by_cases z:b=e
 ·rw [if_pos z,if_pos z]
 ·rw [if_neg z,if_neg z,if_neg z]
theorem cq_0{u:Value}{Q:Value→Shared→Prop}{E:Value→Shared→Prop}(M:XC X.prog X.w X.K X.mg X.base c f C)(hr:RoomC false 2 X.A)(I:Inv X zc σ H s)(r:RelV v u)
  (h:∀a d t s',H a=none→H d=none→d≠a→s.heap.objs.size≤a→Inv X zc σ (upd (upd H d (.xd [(f,v)])) a (XE a ⟨.ref C,some d, .fields #[.ref t, .none, .none, .none, .bool false, .none], #[]⟩)) s'→Q (.ref a) s'):
  wpAny (model X.prog X.w) X.A (call (.ref C) [u]) Q E s:=by
 obtain⟨fI,fd,ps,oI,⟨nm,q,N,bs,bm,sn,sub,ab,col,dd,k0,k1,k2,k3,k5,mN,lc,tl,hn,hi⟩,lI,hI,F,hb⟩:=M.made;have KX:=I.kIn;obtain⟨hh,g,dr,tk,os⟩:=s;refine cv_0 PySem.F.excBase_ValueError (tl hh KX) (KX _ _ lc) (hn hh KX) hi (KX _ _ lI) hI (fun h' e me ze=> ?_) (by show 1≤sizeLine;rw [sizeLine_eq];omega);obtain⟨kk,new,t,et,_,_⟩:=me;have I2:Inv X zc σ (upd H e (XE e ⟨.ref C,none, .fields #[.ref t, .none, .none, .none, .bool false, .none], #[]⟩)) ⟨h',g,dr,tk,os⟩:=I.laid (h':=h') (t':=tk) kk ze (XE.ok et);have he:H e=none:=I.hok.fresh ze;have r2:Vals [.ref e,v] [.ref e,u]:= .cons rfl (.cons r .nil);have sp:ai_0 C f [.ref e,v] (upd H e (XE e ⟨.ref C,none, .fields #[.ref t, .none, .none, .none, .bool false, .none], #[]⟩)) (fun y H2=>y= .non∧∃d,H d=none∧d≠e∧H2=upd (upd H d (.xd [(f,v)])) e (XE e ⟨.ref C,some d, .fields #[.ref t, .none, .none, .none, .bool false, .none], #[]⟩)) (fun _ _ _=>False):=
  ⟨e,v,_,rfl,b_3,fun d hd ne=>⟨rfl,d,by rw [b_0 ne] at hd;exact hd,ne,cz_5⟩⟩
 have hl: [Value.ref e,u].length=ps.length:=F.len _ _ _ _ sp;have hb':=hb ⟨h',g,dr,tk,os⟩ [.ref e,u] I2.kIn (by rw [List.append_nil];exact hl);rw [List.append_nil] at hb';refine wpAny_call (codeAny_mono (F.run _ X.stack _ _ ⟨[.ref e,u], []⟩ [.ref e,u] [.ref e,v] _ _ (hr.make C [u] []) (I2.env0.make C [u] []) hb' r2 sp) fun r s' hq=> ?_);cases r with
 |error x=>
  obtain⟨a,C',dx,T,H',_,_,_,_,_,_,_,_,_,_,z⟩:=hq;exact z.elim
 |ok fl=>
  cases fl with
  |ret y=>
   obtain⟨v',H',I3,rv,ev,d,hd,ne,eH⟩:=I2.after hq;subst ev eH;exact⟨rv,h e d t s' he hd ne ze I3⟩
  |next=>exact False.elim hq
  |brk=>exact False.elim hq
  |cont=>exact False.elim hq
def Lk1(X:Cx)(EX:EXS):Prop:=∀(zc:List (Addr×Obj)) (σ:Sg) (H H':Hp) (s s':Shared) (a C:Addr) (dx:Option Addr) (o:Obj) (us:Array Value),Inv X zc σ H s→Inv X zc σ H' s'→s'.heap.get? a=some o→o.cls= .ref C→o.dict=dx→o.data= .fields us→us[1]? =some .none→
 H' a=none→s.heap.objs.size≤a→EXE X.K (EX σ) (.ref C) dx H'→X.xe (.ref a) s'
theorem r_5{cm:Bool}{w:World}{N:List Str}{qual:Str}{scope:Scope}{f:Addr}{cd:Value}{A:Around}{outer:List Env}{s:Shared}{E:XK}:
  Lk1 (cxN cm P w K mg base N qual scope f cd A outer s H E) (fun _=>EXof K E):=fun zc σ H H' s s' a C dx o us I I' he hc hx hd h1 n1 z1 q=>bl_0 I I' he hc hx hd h1 n1 z1 q.of
def v_8(c f:Str)(js:List Nat)(fe:FE):FS:=fun Δ=>match fe (vsh (gsome js Δ)) with
 | .ok w=> .ex ⟨c, [f], [w.d]⟩ (gsome js Δ)
 | .ex x=> .ex x (gsome js Δ)
 | .no=> .no
theorem t_6{EX:EXS}(js:List Nat){e:Expr}{fe:FE}{np zd pos:Pos}(M:XC X.prog X.w X.K X.mg X.base c f C)(hr:RoomC true 2 X.A)(l1:Lk1 X EX)(he:ED X EX e fe)(hg:Gl X c:=by rfl)(hdb:(c ==("__debug__" :Str))=false:=by decide)
  (hs:starEach [e] X.env=(false,eval e X.env)::starEach [] X.env:=by rfl) (hpl:(backTo zd (starEach [] X.env)).any (·.1)=false:=by rfl):
  SD X EX (.Raise (some (.Call (.Name c np) [e] [] zd)) none pos) (v_8 c f js fe):=by
 intro zc s σ H D I q;obtain⟨H0,G0,G,Δ,O,E,q⟩:=q;obtain⟨G',O',sg,E'⟩:=E.gsome js;obtain⟨fI,fd,ps,oI,⟨nm,qn,N,bs,bm,sn,sub,ab,col,dd,k0,k1,k2,k3,k5,mN,lc,tl,hn,hi⟩,lI,hI,F,hb⟩:=M.made;have hB:bm.contains (.type "BaseException")=true:=ap_5 (tl s.heap I.kIn);rw [arm_exec_Raise];have tD0:tD X.K EX fe σ H fun v H1=>∃v' w G1, [v]= [v']∧fe (vsh (gsome js Δ))= .ok w∧Step G' H G1 H1∧Has X.K G1 v' w.d:=by
  refine⟨G',vsh (gsome js Δ),E'.st.gh,E'.gsh, ?_⟩;unfold v_8 at q;cases e1:fe (vsh (gsome js Δ)) with
  |ok w=>exact WP.intro fun v G1 H1 st r=>⟨v,w,G1,rfl,rfl,st,r⟩
  |ex x=>rw [e1] at q;exact q σ G' H O' E' sg
  |no=>rw [e1] at q;exact q
 have mk:wpAny (model X.prog X.w) X.A (eval (.Call (.Name c np) [e] [] zd) X.env) (fun v s1=>∃a t dx,v= .ref a∧s1.heap.get? C=some (excClassObj nm qn C N bs bm true sn sub ab col dd k0 k1 k2 k3 k5 "ValueError.__new__")∧
   s1.heap.get? a=some {cls:= .ref C,dict:=dx,data:= .fields #[.ref t, .none, .none, .none, .bool false, .none]}∧X.xe (.ref a) s1) X.xe s:=by
  refine wpAny_Call_Name_kw (w_6 I hg M.glob ?_ hdb);refine callWith_K (h₀:=X.base) I.ok.mod.kin M.kp (thn (k_6 he x_6 hs zd zc s σ H (fun vs H1=>∃v' w G1,vs= [v']∧fe (vsh (gsome js Δ))= .ok w∧Step G' H G1 H1∧Has X.K G1 v' w.d) I tD0) fun us s1 ⟨vs,H1,I1,r,v,w,G1,ev,ew,st,hv⟩=>⟨I1.kIn, ?_⟩) hs hpl;subst ev;obtain⟨u,rfl,ru⟩:=r.one;refine cq_0 M hr.loose I1 ru fun a d t s2 ha hd ne za I2=> ?_;have ga:=XE.get I2.hok b_3;refine⟨a,t,some d,rfl,I2.kIn _ _ lc,ga, ?_⟩;have I3:Inv X zc σ (upd H1 d (.xd [(f,v)])) s2:=Inv.forget I2 (by rw [b_0 ne.symm];exact ha);refine l1 zc σ H1 _ s1 s2 a C (some d) _ _ I1 I3 ga rfl rfl rfl rfl (by rw [b_0 ne.symm];exact ha) za ?_;have st2:Step G1 H1 (upd G1 d (.xd [(f,v)])) (upd H1 d (.xd [(f,v)])):=Step.new st.gh hd _;refine⟨⟨c, [f], [w.d]⟩,upd G1 d (.xd [(f,v)]),st2.gh, .with_ M.at_ b_3 rfl (.cons (hv.mono st2.gg) .nil), ?_⟩;unfold v_8 at q;rw [ew] at q;exact q σ _ _ O' ((E'.grow st).grow st2) (sg.trans (st.gg.trans st2.gg))
 refine wpAny_bind (wpAny_standAt (bg_1 hB (hr.hd rfl) (wpAny_bind (wpAny_mono mk (fun v s3 h3=>wpAny_bind (wpAny_standAt (wpAny_pure h3))) fun _ _ x=>x))))
end
section
variable{X:Cx}{zc:List (Addr×Obj)}{σ:Sg}{H:Hp}{s:Shared}
theorem ae_7{M:Model}{A:Around}{E:Value→Shared→Prop}{i:Nat}{n:Str}{Q:Unit→Shared→Prop}(I:Inv X zc σ H s)(hN:X.N.Nodup)(hi:X.N[i]? =some n)(hk:X.env.scope.names.lookup n=some .local)
  (h:∀s',Inv X zc (σ.set i none) H s'→Q () s'):wpAny M A (do bindName X.env n .none;unbindBehindTheSuite X.env n pos) Q E s:=by
 obtain⟨m,hn,hl⟩:=id I.loc;have cv:(X.env.scope.kind == .class || (X.env.scope.kind == .module && X.env.locals != X.env.globals))=false:=by rw [I.ok.kind];rfl
 have hiσ:i < σ.length:=by rw [I.len];exact(List.getElem?_eq_some_iff.mp hi).1
 have cne:=I.cne;have tracked:∀{a:Addr} {h':Heap},(∃o,s.heap.get? a=some o∧H a=none)→Heap.SameBut a s.heap h'→HOk X.prog X.w H h':=fun{a h'} ha hs b ob e=>by
  obtain⟨_,_,ar⟩:=ha;refine(I.hok b ob e).stay (fun c w' hc q=>(hs.2 c ?_).trans q) (fun _ q=>q) fun _ _ q=>q
  rintro rfl
  rcases hc with rfl|hc
  ·rw [ar] at e;cases e
  ·rw [ar] at hc;cases hc
 refine wpAny_nameGoes_keeps hk hn cv fun h' v hn' hs=> ?_;obtain⟨oL,_,_,hoL,_⟩:=id hn;refine h _ ⟨I.ok,I.os,I.bare,⟨fun b o e n hb hx=> ?_,fun b o e n hb hx=> ?_,I.base.free,fun b o e hx=> ?_,I.base.tups,I.base.frzs,I.base.tbls⟩,⟨_,hn',fun j y v' e1 e2 e3=> ?_⟩,fun y c e=> ?_,I.free,I.freeC,fun p hp=> ?_,tracked ⟨oL,hoL,I.free⟩ hs,by simpa using I.len⟩
 ·exact(hs.2 b (Nat.ne_of_lt (Nat.lt_of_lt_of_le (Heap.lt_size e) I.ok.above))).trans (I.base.keep b o e n hb hx)
 ·obtain⟨sl,e1⟩:=I.base.slot b o e n hb hx;exact⟨sl,(hs.2 b (Nat.ne_of_lt (Nat.lt_of_lt_of_le (Heap.lt_size e) I.ok.above))).trans e1⟩
 ·obtain⟨o',e1⟩:=I.base.there b o e hx;exact⟨o',(hs.2 b (Nat.ne_of_lt (Nat.lt_of_lt_of_le (Heap.lt_size e) I.ok.above))).trans e1⟩
 ·by_cases hj:j=i
  ·subst hj;rw [List.getElem?_set_self hiσ] at e2;cases e2
  ·rw [List.getElem?_set_ne (Ne.symm hj)] at e2;obtain⟨u',r',q⟩:=hl j y v' e1 e2 e3;refine⟨u',r', ?_⟩;rcases q with⟨k,e⟩|⟨k,c,e,z⟩
   ·refine .inl ⟨k, ?_⟩;have:y≠n:=fun e=>hj (aw_6 hN e1 (e▸hi));simp [this,e]
   ·exact .inr ⟨k,c,e,z.sameBut hs (cne y c e)⟩
 ·obtain⟨w',z⟩:=I.cell y c e;exact⟨w',z.sameBut hs (cne y c e)⟩
 ·obtain⟨e,n,ne,nf,d⟩:=I.pin p hp;exact⟨(hs.2 p.1 ne).trans e,n,ne,nf,d⟩
theorem Inv.speak{H':Hp}{s':Shared}{a C:Addr}{dx:Option Addr}{us:Array Value}{sl:Array (Option Value)}(I:Inv X zc σ H s)(I':Inv X zc σ H' s')(za:s.heap.objs.size≤a)(e:s'.heap.get? a=some ⟨.ref C,dx, .fields us,sl⟩)(hn:H' a=none):Inv X zc σ (upd H' a (XO a C dx)) s':=by
 have B:=I'.base;have ns:∀b o,X.s₀.heap.get? b=some o→b≠a:=fun b o q z=>absurd (Nat.lt_of_lt_of_le (Heap.lt_size q) (Nat.le_trans I.sz za)) (by rw [z];exact Nat.lt_irrefl _);have lt:∀b:Addr,b < s.heap.objs.size→b≠a:=fun b h z=>absurd (Nat.lt_of_lt_of_le h za) (by rw [z];exact Nat.lt_irrefl _);have up:∀b u,H' b=some u→upd H' a (XO a C dx) b=some u:=fun b u q=>by rw [b_0 (d_5 q hn)];exact q
 refine⟨I'.ok,I'.os,I'.bare,⟨B.keep,B.slot,fun b o q n x=>by rw [b_0 (ns b o q)];exact B.free b o q n x,B.there,fun b xs q=>up _ _ (B.tups b xs q),fun b o u q=>up _ _ (B.frzs b o u q),fun b ps q=>let⟨m,z⟩:=B.tbls b ps q;⟨m,up _ _ z⟩⟩,I'.loc,I'.cell, ?_,fun x c q=> ?_,fun p hp=> ?_,fun b u q=> ?_,I'.len⟩
 ·rw [b_0 (lt _ I.lt)];exact I'.free
 ·obtain⟨v,hv⟩:=I.cell x c q;rw [b_0 (lt _ hv.lt)];exact I'.freeC x c q
 ·obtain⟨p1,p2,p3⟩:=I'.pin p hp;exact⟨p1,by rw [b_0 (lt _ (Heap.lt_size (I.pin p hp).1))];exact p2,p3⟩
 ·by_cases z:b=a
  ·subst z;rw [b_3] at q;cases q;exact XO.ok e
  ·rw [b_0 z] at q;exact(I'.hok b u q).stay (fun _ _ _ q=>q) (fun c q=>up _ _ q) fun c xs q=>up _ _ q
end
def tryB(X:Cx)(zc:List (Addr×Obj))(W:Value→Shared→Prop):Cx:={X with pn:=X.pn ++ zc,xe:=W}
def hand(X:Cx)(e:Value):Cx:={X with A:=X.A.mark (some e),calm:=false,xe:=fun _ _=>False}
section
variable{X:Cx}{zc aj:List (Addr×Obj)}{σ:Sg}{H:Hp}{s:Shared}{W:Value→Shared→Prop}{e:Value}
theorem ok_tryB:(tryB X zc W).Ok↔X.Ok:=⟨fun ok=>⟨ok.mod,ok.kind,ok.glob,ok.blt,ok.above,ok.inj,ok.has,ok.cab,ok.hd,ok.frames,ok.stk,ok.exf,ok.bs,ok.bsz,ok.noex,ok.exfs,ok.funs,ok.frf⟩,
 fun ok=>⟨ok.mod,ok.kind,ok.glob,ok.blt,ok.above,ok.inj,ok.has,ok.cab,ok.hd,ok.frames,ok.stk,ok.exf,ok.bs,ok.bsz,ok.noex,ok.exfs,ok.funs,ok.frf⟩⟩
theorem Inv.toB(I:Inv X zc σ H s):Inv (tryB X zc W) [] σ H s:=⟨ok_tryB.mpr I.ok,I.os,I.bare,I.base,I.loc,I.cell,I.free,I.freeC,fun p hp=>I.pin p (by have hp:p∈(X.pn ++ zc) ++ []:=hp;rwa [List.append_nil] at hp),I.hok,I.len⟩
theorem Inv.ofB(I:Inv (tryB X zc W) aj σ H s):Inv X zc σ H s:=⟨ok_tryB.mp I.ok,I.os,I.bare,I.base,I.loc,I.cell,I.free,I.freeC,fun p hp=>I.pin p (List.mem_append_left _ hp),I.hok,I.len⟩
theorem SP.ofB{D:Ends}{f:Flow}(h:SP (tryB X zc W) aj D f s):SP X zc D f s:=by
 cases f with
 |next=>obtain⟨σ',H',I,q⟩:=h;exact⟨σ',H',Inv.ofB I,q⟩
 |brk=>obtain⟨σ',H',I,q⟩:=h;exact⟨σ',H',Inv.ofB I,q⟩
 |cont=>obtain⟨σ',H',I,q⟩:=h;exact⟨σ',H',Inv.ofB I,q⟩
 |ret u=>obtain⟨v,σ',H',I,r,q⟩:=h;exact⟨v,σ',H',Inv.ofB I,r,q⟩
theorem Inv.toH(I:Inv X zc σ H s):Inv (hand X e) zc σ H s:=
 ⟨⟨I.ok.mod,I.ok.kind,I.ok.glob,I.ok.blt,I.ok.above,I.ok.inj,I.ok.has,I.ok.cab,fun z=>absurd z Bool.false_ne_true,I.ok.frames,I.ok.stk,I.ok.exf,I.ok.bs,I.ok.bsz,I.ok.noex,I.ok.exfs,I.ok.funs,I.ok.frf⟩,I.os,I.bare,I.base,I.loc,I.cell,I.free,I.freeC,I.pin,I.hok,I.len⟩
theorem Inv.ofH(ok:X.Ok)(I:Inv (hand X e) zc σ H s):Inv X zc σ H s:=⟨ok,I.os,I.bare,I.base,I.loc,I.cell,I.free,I.freeC,I.pin,I.hok,I.len⟩
end
def dn_3(i:Nat):Fl→Fl
 | .nx Δ=> .nx (Δ.set i .no)
 | .bk Δ=> .bk (Δ.set i .no)
 | .ct Δ=> .ct (Δ.set i .no)
 | .rt w=> .rt w
 |_=> .no
def Catches(K:Frag)(C2:Addr)(tb:List (Str×Bool)):Prop:=∀c b,tb.lookup c=some b→∀C,ClsAt K c C→exmOne K (.ref C) (.ref C2)=some b
theorem Ev.drop{H0:HB}{G0 G H:Hp}{σ:Sg}{Δ:SE}{O:OS}(E:Ev K H0 G0 G H σ Δ O)(i:Nat):Ev K H0 G0 G H (σ.set i none) (Δ.set i .no) O:=by
 refine⟨E.st,by rw [List.length_set,List.length_set];exact E.len,fun j d e=> ?_,fun j z d e zo=> ?_,E.out,E.dj,fun j d e=> ?_,fun j d e=> ?_⟩
 ·rcases i_3 e with⟨rfl,q⟩|⟨n,q⟩
  ·cases q
  ·rw [List.getElem?_set_ne n];exact E.sh j d q
 ·rcases i_3 e with⟨rfl,q⟩|⟨n,q⟩
  ·subst q;cases zo
  ·rw [List.getElem?_set_ne n];exact E.ow j z d q zo
 ·rcases i_3 e with⟨rfl,q⟩|⟨n,q⟩
  ·cases q
  ·rw [List.getElem?_set_ne n];exact E.lk j d q
 ·rcases i_3 e with⟨rfl,q⟩|⟨n,q⟩
  ·cases q
  ·rw [List.getElem?_set_ne n];exact E.lt j d q
section
variable{X:Cx}{EX:EXS}{i:Nat}{tb:List (Str×Bool)}{g h:FS}{c n:Str}{C2:Addr}{body ag:List Stmt}{b₀:Stmt}{np hp pos:Pos}
theorem Has.exc{G:Hp}{a C:Addr}{dx:Option Addr}{x:Xn}(hn:G a=none)(e:ExcAt K G (.ref C) dx x):Has K (upd G a (XO a C dx)) (.ref a) (.exn x.c x.ns x.vs):=by
 cases e with
 |bare hc=>exact .exn0 hc b_3
 |with_ hc hd hl r=>exact .exn1 hc b_3 (by rw [b_0 (d_5 hd hn)];exact hd) hl (r.mono (l_1 hn _))
theorem cz_6{H0:HB}{G0 G1:Hp}{D:Ends}{r:Fl}(q:Fin K EX H0 G0 G1 D (dn_3 i r)):Fin K q_8 H0 G0 G1 {nx:=fun σ H=>D.nx (σ.set i none) H,rt:=D.rt,bk:=fun σ H=>D.bk (σ.set i none) H,ct:=fun σ H=>D.ct (σ.set i none) H} r:=by
 cases r with
 |nx Δ=>exact fun σ G H O E sg=>q _ G H O (E.drop i) sg
 |bk Δ=>exact fun σ G H O E sg=>q _ G H O (E.drop i) sg
 |ct Δ=>exact fun σ G H O E sg=>q _ G H O (E.drop i) sg
 |rt w=>exact q
 |ex x Δ=>exact q.elim
 |no=>exact q
end
structure XGet(K:Frag)(C:Addr)(f:Str):Prop where
 ga:findIn K (.ref C) "__getattribute__" =some (some (.builtin "BaseException.__getattribute__"))
 gt:findIn K (.ref C) "__getattr__" =some none
 be:mroIn K C (.type "BaseException")=some true
 hd:hasDictIn K C=true
 no:findIn K (.ref C) f=some none
section
variable{prog:Program}{w:World}{A:Around}{E:Value→Shared→Prop}{s:Shared}{K:Frag}{x C dx:Addr}{f:Str}
structure XInst(K:Frag)(C:Addr):Prop where
 ga:findIn K (.ref C) "__getattribute__" =some (some (.builtin "BaseException.__getattribute__"))
 gt:findIn K (.ref C) "__getattr__" =some none
 be:mroIn K C (.type "BaseException")=some true
 hd:hasDictIn K C=true
 cl:findIn K (.ref C) "__class__" =some (some (.builtin "object.__class__"))
 gs:specialIn K (.builtin "object.__class__") "__get__" =some (some (.builtin "getset_descriptor.__get__"))
 tk:takesIn K (.builtin "object.__class__")=some true
 ob:mroIn K C (.type "object")=some true
end
def eAttr(cs:List Str)(f:Str)(fo:FE):FE:=fun δ=>(fo δ).bind fun w=>match w.d with
 | .exn c ns vs=>if cs.contains c=true then(match(ns.zip vs).lookup f with|some d=> .ok (.sh d)|none=> .no) else .no
 |_=> .no
section
variable{X:Cx}{EX:EXS}{o:Expr}{fo:FE}{f:Str}{cs:List Str}{pos:Pos}
end
def eIsC(tb:List (Str×Bool))(fo:FE):FE:=fun δ=>(fo δ).bind fun w=>match w.d with
 | .exn c _ _=>(match tb.lookup c with|some b=> .ok (.sh (.bl b))|none=> .no)
 |_=> .no
section
variable{X:Cx}{EX:EXS}{zc:List (Addr×Obj)}{σ:Sg}{G H:Hp}{s:Shared}
variable{a:Expr}{fo:FE}{tb:List (Str×Bool)}{pp pos:Pos}
end
theorem RoomC.units{c:Bool}{k:Nat}{A:Around}(r:RoomC c k A):A.units + 64 < cLine:=by have:=r.un;omega
section
variable{X:Cx}{c:Bool}{k:Nat}{zc:List (Addr×Obj)}{W:Value→Shared→Prop}{e:Value}
theorem bx_7(h:RoomC c k (Cx.A X)):RoomC c k (Cx.A (tryB X zc W)):=h
theorem c_4{cm:Bool}{w:World}{N:List Str}{qual:Str}{scope:Scope}{f:Addr}{cd:Value}{A:Around}{outer:List Env}{s:Shared}{E:XK}:
  PassesOwn (model P w) (Cx.A (cxN cm P w K mg base N qual scope f cd A outer s H E)) (Cx.env (cxN cm P w K mg base N qual scope f cd A outer s H E)) (Cx.xe (cxN cm P w K mg base N qual scope f cd A outer s H E)):=
 fun e s' h=>wpAny_leaving_again (SameStack.refl _) h
theorem Catches.one{C2:Addr}{c:Str}{C:Addr}{b:Bool}(a:ClsAt K c C)(h:exmOne K (.ref C) (.ref C2)=some b){tb:List (Str×Bool)}(r:Catches K C2 tb):Catches K C2 ((c,b)::tb):=fun c' b' e C' a'=>by
 rw [List.lookup_cons] at e;cases z:(c' ==c) with
 |true=>
  rw [z] at e;cases e;have:c'=c:=eq_of_beq z;subst this;unfold ClsAt at a a';rw [a] at a';cases a';exact h
 |false=>rw [z] at e;exact r c' b' e C' a'
theorem Catches.nil{C2:Addr}:Catches K C2 []:=fun _ _ e=>by cases e
end
structure Hd where
 i:Option Nat
 tb:List (Str×Bool)
 h:FS
def hdGo(d:Hd)(x:Xn)(Δ:SE):Fl:=match d.i with
 |some i=>dn_3 i (d.h (Δ.set i (.sh (.exn x.c x.ns x.vs))))
 |none=>(match d.h Δ with
  | .ex _ _=> .no
  |r=>r)
def tryH:List Hd→Xn→SE→Fl
 | [],_,_=> .no
 |d::r,x,Δ=>match d.tb.lookup x.c with
  |some true=>hdGo d x Δ
  |some false=>tryH r x Δ
  |none=> .no
def ay_8(g:FS)(hs:List Hd):FS:=fun Δ=>match g Δ with
 | .ex x Δ1=>tryH hs x Δ1
 |r=>r
inductive HOk3(X:Cx):List ExceptHandler→List Hd→Prop where
 |nil:HOk3 X [] []
 |as_ {c n:Str} {C2:Addr} {b₀:Stmt} {ag:List Stmt} {np hp:Pos} {i:Nat} {tb:List (Str×Bool)} {h:FS} {hs:List ExceptHandler} {ds:List Hd} (hc:X.mg c=some (.ref C2)) (ct:Catches X.K C2 tb) (hh:∀e,BD (hand X e) q_8 (b₀::ag) h) (r:HOk3 X hs ds)
   (hi:X.N[i]? =some n:=by rfl) (hk:X.env.scope.names.lookup n=some .local:=by rfl) (hg:Gl X c:=by rfl) (hdb:(c ==("__debug__" :Str))=false:=by decide):
   HOk3 X (.ExceptHandler (some (.Name c np)) (some n) (b₀::ag) hp::hs) (⟨some i,tb,h⟩::ds)
 |bare {c:Str} {C2:Addr} {b₀:Stmt} {ag:List Stmt} {np hp:Pos} {tb:List (Str×Bool)} {h:FS} {hs:List ExceptHandler} {ds:List Hd} (hc:X.mg c=some (.ref C2)) (ct:Catches X.K C2 tb) (hh:∀e,BD (hand X e) q_8 (b₀::ag) h) (r:HOk3 X hs ds)
   (hg:Gl X c:=by rfl) (hdb:(c ==("__debug__" :Str))=false:=by decide):
   HOk3 X (.ExceptHandler (some (.Name c np)) none (b₀::ag) hp::hs) (⟨none,tb,h⟩::ds)
def EXh(K:Frag)(EX:EXS)(D:Ends)(ds:List Hd):EXS:=fun σ=>⟨fun x G H=>∃H0 G0 Δ O,Ev K H0 G0 G H σ Δ O∧Fin K EX H0 G0 G D (tryH ds x Δ),
 fun _ _ _ _ _ s ⟨H0,G0,Δ,O,E,f⟩=>⟨H0,G0,Δ,O,E.grow s,Fin.mono s.gg f⟩⟩
theorem dk_2{EX:EXS}{H0:HB}{G0 G1:Hp}{D:Ends}{r:Fl}(q:Fin K EX H0 G0 G1 D (match r with| .ex _ _=> .no|r=>r)):Fin K q_8 H0 G0 G1 {nx:=D.nx,rt:=D.rt,bk:=D.bk,ct:=D.ct} r:=by
 cases r with
 |nx Δ=>exact q
 |bk Δ=>exact q
 |ct Δ=>exact q
 |rt w=>exact q
 |ex x Δ=>exact q.elim
 |no=>exact q
section
variable{X:Cx}{EX:EXS}{g:FS}{body:List Stmt}{pos:Pos}
theorem cq_1(hN:X.N.Nodup){zc:List (Addr×Obj)}{D:Ends}{a C T2:Addr}{dx:Option Addr}{σ1 σ0:Sg}{H1 H2:Hp}{s1 s2:Shared}{h2:Heap}{x:Xn}{H0':HB}{G2 G0':Hp}{Δ1:SE}{O1:OS}{oa:Obj}{ua:Array Value}
  (J1:Inv X zc σ0 H1 s1) (J4:Inv X zc σ1 (upd H2 a (XO a C dx)) {s2 with heap:=h2}) (st4:Step G2 H2 (upd G2 a (XO a C dx)) (upd H2 a (XO a C dx)))
  (n1:H2 a=none) (sg2:Same G2 H2) (ea:ExcAt X.K G2 (.ref C) dx x) (LT:Looks (model X.prog X.w) h2 (typeOf (.ref a)) (.ref C)) (hcC:ClsAt X.K x.c C)
  (E1:Ev X.K H0' G0' G2 H2 σ1 Δ1 O1)
  (flt:∀{A:Around} {E:Value→Shared→Prop} {Q:Unit→Shared→Prop},(∀h3,Inv X zc σ1 (upd H2 a (XO a C dx)) {s2 with heap:=h3}→Q () {s2 with heap:=h3})→wpAny (model X.prog X.w) A (setFlight (.ref a) none) Q E {s2 with heap:=h2}):
  ∀{hs:List ExceptHandler} {ds:List Hd},HOk3 X hs ds→Fin X.K EX H0' G0' G2 D (tryH ds x Δ1)→wpAny (model X.prog X.w) X.A (handleBy (.ref a) X.env hs) (SP X zc D) X.xe {s2 with heap:=h2}:=by
 intro hs ds ho
 induction ho with
 |nil=>intro q;exact False.elim q
 |as_ hc ct hh r hi hk hg hdb ih=>
  rename_i c n C2 b₀ ag np hp i tb h hs ds;intro q;refine wpAny_handleBy_cons (codeAny_handlers_test ?_) (by intro z;cases z);refine w_6 (X:=hand X (.ref a)) (Inv.toH J4) hg hc ?_ hdb;unfold tryH at q;cases e2:tb.lookup x.c with
  |none=>simp only [e2] at q;exact q.elim
  |some b=>
   have em:=ct _ _ e2 C hcC;refine Looks.here (s:={s2 with heap:=h2}) (exm_one J4.kIn LT em) ?_;cases b with
   |false=>simp only [e2] at q;exact ih q
   |true=>
    simp only [e2,hdGo] at q;show codeAny _ _ _ _ _;refine codeAny_handlers_suite_as (flt fun h3 J5=> ?_);refine aw_7 (X:=hand X (.ref a)) (v:= .ref a) (Inv.toH J5) hN hi (.inl hk) rfl (fun s6 I6=> ?_) (.inr hk);have E6:=(E1.grow st4).put (i:=i) (Has.exc (sg2.free n1) ea);refine wpAny_mono (hh (.ref a) zc s6 _ _ _ I6 ⟨H0',G0',_,_,O1,E6,cz_6 (Fin.mono st4.gg q)⟩) (fun f s7 h7=> ?_) fun _ _ z=>False.elim z;show wpAny _ X.A (do bindName X.env n .none;unbindBehindTheSuite X.env n hp) (fun _ s₃=>SP X zc D f s₃) _ s7;cases f with
    |next=>
     obtain⟨σ7,H7,I7,q7⟩:=h7;exact ae_7 (Inv.ofH J1.ok I7) hN hi hk fun s8 I8=>⟨_,H7,I8,q7⟩
    |brk=>
     obtain⟨σ7,H7,I7,q7⟩:=h7;exact ae_7 (Inv.ofH J1.ok I7) hN hi hk fun s8 I8=>⟨_,H7,I8,q7⟩
    |cont=>
     obtain⟨σ7,H7,I7,q7⟩:=h7;exact ae_7 (Inv.ofH J1.ok I7) hN hi hk fun s8 I8=>⟨_,H7,I8,q7⟩
    |ret u=>
     obtain⟨v,σ7,H7,I7,r7,q7⟩:=h7;exact ae_7 (Inv.ofH J1.ok I7) hN hi hk fun s8 I8=>⟨v,_,H7,I8,r7,q7⟩
 |bare hc ct hh r hg hdb ih=>
  rename_i c C2 b₀ ag np hp tb h hs ds;intro q;refine wpAny_handleBy_cons (codeAny_handlers_test ?_) (by intro z;cases z);refine w_6 (X:=hand X (.ref a)) (Inv.toH J4) hg hc ?_ hdb;unfold tryH at q;cases e2:tb.lookup x.c with
  |none=>simp only [e2] at q;exact q.elim
  |some b=>
   have em:=ct _ _ e2 C hcC;refine Looks.here (s:={s2 with heap:=h2}) (exm_one J4.kIn LT em) ?_;cases b with
   |false=>simp only [e2] at q;exact ih q
   |true=>
    simp only [e2,hdGo] at q;show codeAny _ _ _ _ _;refine codeAny_handlers_suite (flt fun h3 J5=> ?_);have E6:=E1.grow st4;refine wpAny_mono (hh (.ref a) zc {s2 with heap:=h3} _ _ _ (Inv.toH J5) ⟨H0',G0',_,_,O1,E6,dk_2 (Fin.mono st4.gg q)⟩) (fun f s7 h7=> ?_) fun _ _ z=>False.elim z;cases f with
    |next=>
     obtain⟨σ7,H7,I7,q7⟩:=h7;exact⟨_,H7,Inv.ofH J1.ok I7,q7⟩
    |brk=>
     obtain⟨σ7,H7,I7,q7⟩:=h7;exact⟨_,H7,Inv.ofH J1.ok I7,q7⟩
    |cont=>
     obtain⟨σ7,H7,I7,q7⟩:=h7;exact⟨_,H7,Inv.ofH J1.ok I7,q7⟩
    |ret u=>
     obtain⟨v,σ7,H7,I7,r7,q7⟩:=h7;exact⟨v,_,H7,Inv.ofH J1.ok I7,r7,q7⟩
theorem dk_3{hd0:ExceptHandler}{hs0:List ExceptHandler}{ds:List Hd}(hN:X.N.Nodup)(hfr:X.env.frame=some X.env.locals)(hst:X.stack=X.env::X.outer)(hb:∀zc W EXB,Lk (tryB X zc W) EXB→BD (tryB X zc W) EXB body g)(ho:HOk3 X (hd0::hs0) ds):
  SD X EX (.Try body (hd0::hs0) [] [] pos) (ay_8 g ds):=by
 intro zc s σ H D I q;obtain⟨H0,G0,G,Δ,O,E,q⟩:=q;refine wpAny_Try_except ?_;have lk:Lk (tryB X zc fun e s₁=>wpAny (model X.prog X.w) X.A (noteFrame e X.env) (fun _ s₂=>wpAny (model X.prog X.w) X.A (setFlight e none) (fun _ s₃=>wpAny (model X.prog X.w) X.A (handleBy e X.env (hd0::hs0)) (SP X zc D) X.xe s₃) X.xe s₂) X.xe s₁) (EXh X.K EX D ds):=by
  intro aj σ1 H1 s1 e s2 I1 cx;obtain⟨a,C,dx,T,H2,rfl,I2,tr,n1,n2,z1,z2,x,G2,sg2,ea,H0',G0',Δ1,O1,E1,f1⟩:=Inv.raised I1 cx;show wpAny _ X.A (noteFrame (.ref a) X.env) _ _ s2;have J1:=Inv.ofB I1;have J2:=Inv.ofB I2;refine bg_0 (outer:=X.outer) (by rw [←hst];exact J2.ok.frames) (by rw [←hst];exact J2.stack) hfr tr fun h1 T2 z3 k1 t1=> ?_;refine w_8 t1 fun h2 k2 t2=> ?_;have zT2:H2 T2=none:=J2.hok.fresh z3;have J3:Inv X zc σ1 H2 {s2 with heap:=h2}:=by
   refine Inv.settle (ch:= [a,T] ++ [T2]) J1 J2 (fun b hb=> ?_) ?_
   ·have:b=a∨b=T∨b=T2:=by simpa using hb
    rcases this with rfl|rfl|rfl
    ·exact⟨z1,n1⟩
    ·exact⟨z2,n2⟩
    ·exact⟨Nat.le_trans z1 (Nat.le_trans (Nat.le_of_lt (Heap.lt_size tr.ob.choose_spec.choose_spec.1)) z3),zT2⟩
   ·rw [hst];exact k1.trans (KeepX.of_same k2)
  obtain⟨⟨oa,ua,ga,gc,gd,gf,g1⟩,ne,tbk⟩:=id t2;have goa:h2.get? a=some ⟨.ref C,dx, .fields ua,oa.slots⟩:=by
   obtain⟨c1,d1,e1,s1⟩:=oa;simp only at gc gd gf;subst gc gd gf;exact ga
  have J4:Inv X zc σ1 (upd H2 a (XO a C dx)) {s2 with heap:=h2}:=Inv.speak J1 J3 z1 goa n1;have st4:Step G2 H2 (upd G2 a (XO a C dx)) (upd H2 a (XO a C dx)):=Step.new sg2 n1 _;have LT:Looks (model X.prog X.w) h2 (typeOf (.ref a)) (.ref C):=gc▸(Looks.ld ga).andThen .now;obtain⟨hcC⟩:Nonempty (ClsAt X.K x.c C):=by cases ea with|bare hc=>exact⟨hc⟩|with_ hc _ _ _=>exact⟨hc⟩
  refine cq_1 (oa:=oa) (ua:=ua) (T2:=T2) hN J1 J4 st4 n1 sg2 ea LT hcC E1 (fun{A E Q} hq=> ?_) ho f1;refine w_8 t2 fun h3 k3 t3=>hq h3 ?_;refine Inv.settle (ch:= [T2]) (s':={s2 with heap:=h2}) J1 J4 (fun b hb=> ?_) (KeepX.of_same k3);have:b=T2:=by simpa using hb
  subst this;exact⟨Nat.le_trans z1 (Nat.le_trans (Nat.le_of_lt (Heap.lt_size tr.ob.choose_spec.choose_spec.1)) z3),by rw [b_0 ne];exact zT2⟩
 refine wpAny_mono (hb zc _ _ lk [] s σ H D (Inv.toB I) ⟨H0,G0,G,Δ,O,E, ?_⟩) (fun f s1 hs=> ?_) fun _ _ z=>z
 ·unfold ay_8 at q;cases e1:g Δ with
  |ex x Δ1=>
   rw [e1] at q;exact fun σ1 G1 H1 O1 E1 sg=>⟨H0,G0,Δ1,O1,E1,Fin.mono sg q⟩
  |nx Δ1=>rw [e1] at q;exact q
  |bk Δ1=>rw [e1] at q;exact q
  |ct Δ1=>rw [e1] at q;exact q
  |rt w=>rw [e1] at q;exact q
  |no=>rw [e1] at q;exact q
 ·have hs':=SP.ofB hs;cases f with
  |next=>exact wpAny_execs_nil hs'
  |brk=>exact hs'
  |cont=>exact hs'
  |ret u=>exact hs'
end
section
variable{prog:Program}{w:World}{A:Around}{E:Value→Shared→Prop}{h:Heap}{g:Array GenState}{d:Drawn}{t:Nat}{os:OsState}
variable{nm q:Str}{C N:Addr}{bs bm bmB:List Value}{bc:Bool}{sn:List Str}{sub:List Value}{ab:Bool}{col:Option Bool}{dd:Option Addr}{k0 k1 k2 k3 k5:Option Value}{B newId ah:String}
theorem ce_9(FB:ExcBaseFacts B newId ah bmB)(T:OwnTail h bmB bm){mN:Str→Option Value}{Q:PySem.Fin→Shared→Prop}
  (hC:h.get? C=some (excClassObj nm q C N bs bm bc sn sub ab col dd k0 k1 k2 k3 k5 newId)) (hn:h.Ns N mN) (hi:mN "__init__" =none)
  (z:∀h' e,Heap.MadeExcOf h h' e (.ref C) []→h.objs.size≤e→Q (.done (.ret (.ref e))) ⟨h',g,d,t,os⟩):
  wpAny (model prog w) A (Builtin.«type.__call__» ⟨[.ref C], []⟩) Q E ⟨h,g,d,t,os⟩:=by
 wp_walk using wpAny_loadPart_at hC,wpAny_madeBy_exc hC
 refine codeAny_call_builtin_code (Code.quiet_builtin _ FB.quiet) (wpAny_check_new_subT FB T hC ?_);refine codeAny_exc_new_subT FB T hC ?_ (by show 0≤sizeLine;exact Nat.zero_le _);show wpAny _ _ _ _ _ _;generalize e1:({cls:= .type "tuple",data:= .seq ([]:List Value).toArray}:Obj)=o1;generalize e2:({cls:= .ref C,data:= .fields #[.ref h.objs.size, .none, .none, .none, .bool false, .none]}:Obj)=o2;have up:∀b o,h.get? b=some o→((h.push o1).push o2).get? b=some o:=fun b o e=>Heap.get?_push_of_some _ (Heap.get?_push_of_some _ e);have ge:((h.push o1).push o2).get? (h.objs.size + 1)=some o2:=by
  have:=Heap.get?_push_size (h.push o1) (o:=o2) (by rw [←e2];rfl)
  rwa [Heap.size_push] at this
 have hC1:=up _ _ hC;have hn1:((h.push o1).push o2).Ns N mN:=hn.keeps up;have T1:=T.keeps up;have cl:o2.cls= .ref C:=by rw [←e2]
 have hcC:List.contains (Value.ref C::bm) (.ref C)=true:=List.contains_iff_mem.mpr (.head _);unfold isInstance
 repeat (first|(with_reducible refine wpAny_loadPart_at ge ?_;rw [cl])|(with_reducible refine wpAny_isSubtype_exc hC1 ?_;rw [hcC])|wp_step)
 show wpAny _ _ (typeLookup (.ref C) _) _ _ _;refine wpAny_typeLookup_tail hC1 hn1 T1 FB.mroIs FB.init.lookup ?_;rw [hi];refine wpAny_holding (wpAny_bind (wpAny_of_eq (FB.init.bind _) ?_));refine wpAny_bind (wpAny_call (codeAny_call_builtin FB.init.plain FB.initEntry (wpAny_check_init_subT FB T1 hC1 ge cl ?_)));subst e1 e2
 wp_walk
 refine z _ (h.objs.size + 1) ⟨fun b o hb=> ?_,Heap.get?_none_of_le (Nat.le_succ _),h.objs.size + 2, ?_,Heap.get?_none_of_le (by omega), ?_⟩ (Nat.le_succ _)
 ·rw [Heap.get?_update_other _ _ (Ne.symm (Nat.ne_of_lt (Nat.lt_succ_of_lt (Heap.lt_size hb))))];exact Heap.get?_push_of_some _ (up b o hb)
 ·rw [Heap.get?_update_self _ (Heap.get?_push_of_some _ ge) rfl,Heap.size_push,Heap.size_push];rfl
 ·rw [Heap.get?_update_other _ _ (Nat.ne_of_lt (Nat.lt_succ_self (h.objs.size + 1)))];exact Heap.get?_push_at (by rw [Heap.size_push,Heap.size_push]) rfl
theorem cq_2(FB:ExcBaseFacts B newId ah bmB)(T:OwnTail h bmB bm){mN:Str→Option Value}{Q:Value→Shared→Prop}
  (hC:h.get? C=some (excClassObj nm q C N bs bm bc sn sub ab col dd k0 k1 k2 k3 k5 newId)) (hn:h.Ns N mN) (hi:mN "__init__" =none)
  (z:∀h' e,Heap.MadeExcOf h h' e (.ref C) []→h.objs.size≤e→Q (.ref e) ⟨h',g,d,t,os⟩):
  wpAny (model prog w) A (call (.ref C) []) Q E ⟨h,g,d,t,os⟩:=by
 have f1:=tc_lookup;have f2:=tc_bind (.ref C);have isT:Shared.TypeIs ⟨h,g,d,t,os⟩ (.ref C) "type" :=⟨_,hC,rfl⟩;refine wpAny_call (codeAny_of_tree (?_:wpAny _ _ (callAny (.ref C) _) _ _ _))
 wp_walk using wpAny_loadPart_at hC
 refine⟨rfl, ?_⟩;exact codeAny_call_builtin_at (Code.quiet_builtin _ (by decide +kernel)) entry_typeCall (wpAny_check_type_call_sub hC (ce_9 FB T hC hn hi z))
end
def XMk0(K:Frag)(C:Addr):Prop:=∃(nm q:Str) (N:Addr) (bs bm:List Value) (sn:List Str) (sub:List Value) (ab:Bool) (col:Option Bool) (dd:Option Addr) (k0 k1 k2 k3 k5:Option Value) (mN:Str→Option Value),
 K.lookup C=some (excClassObj nm q C N bs bm true sn sub ab col dd k0 k1 k2 k3 k5 "ValueError.__new__")∧(∀h:Heap,K.In h→OwnTail h bmVE bm)∧(∀h:Heap,K.In h→h.Ns N mN)∧mN "__init__" =none
theorem bo_1{C N L:Addr}{nm q:Str}{bs:List Value}{sn:List Str}{sub:List Value}{ab:Bool}{col:Option Bool}{dd:Option Addr}{k0 k1 k2 k3 k5:Option Value}{oc c0 oL:Value}{od ddL odL:Option Addr}{es esL:Array DictEntry}{ep epL:Nat}{sl sl0 slL:Array (Option Value)}{cd:ClassData}
  (lc:K.lookup C=some (excClassObj nm q C N bs (.ref L::bmVE) true sn sub ab col dd k0 k1 k2 k3 k5 "ValueError.__new__")) (ln:K.lookup N=some ⟨oc,od, .dict es ep,sl⟩) (kn:e_8 es=true) (hi:nsFind es "__init__" =none)
  (ll:K.lookup L=some ⟨c0,ddL, .cls cd,sl0⟩) (lm:K.lookup cd.ns=some ⟨oL,odL, .dict esL epL,slL⟩) (km:e_8 esL=true) (hL:nsFind esL "__init__" =none):XMk0 K C:=
 ⟨nm,q,N,bs,_,sn,sub,ab,col,dd,k0,k1,k2,k3,k5,nsFind es,lc,fun h X=> .own (X _ _ ll) (ck_2 lm km X) hL .base,fun h X=>ck_2 ln kn X,hi⟩
structure XC0(K:Frag)(mg:Str→Option Value)(c:Str)(C:Addr):Prop where
 at_:ClsAt K c C
 glob:mg c=some (.ref C)
 kp:keepIn K (.ref C)=true
 made:XMk0 K C
def aw_1(c:Str):FS:=fun Δ=> .ex ⟨c, [], []⟩ Δ
section
variable{X:Cx}{C:Addr}{c:Str}
theorem ap_6{EX:EXS}{np zd pos:Pos}(M:XC0 X.K X.mg c C)(hr:RoomC true 2 X.A)(l1:Lk1 X EX)(hg:Gl X c:=by rfl)(hdb:(c ==("__debug__" :Str))=false:=by decide):
  SD X EX (.Raise (some (.Call (.Name c np) [] [] zd)) none pos) (aw_1 c):=by
 intro zc s σ H D I q;obtain⟨H0,G0,G,Δ,O,E,q⟩:=q;obtain⟨nm,qn,N,bs,bm,sn,sub,ab,col,dd,k0,k1,k2,k3,k5,mN,lc,tl,hn,hi⟩:=M.made;have hB:bm.contains (.type "BaseException")=true:=ap_5 (tl s.heap I.kIn);rw [arm_exec_Raise];have mk:wpAny (model X.prog X.w) X.A (eval (.Call (.Name c np) [] [] zd) X.env) (fun v s1=>∃a t dx,v= .ref a∧s1.heap.get? C=some (excClassObj nm qn C N bs bm true sn sub ab col dd k0 k1 k2 k3 k5 "ValueError.__new__")∧
   s1.heap.get? a=some {cls:= .ref C,dict:=dx,data:= .fields #[.ref t, .none, .none, .none, .bool false, .none]}∧X.xe (.ref a) s1) X.xe s:=by
  refine wpAny_Call_Name_kw (w_6 I hg M.glob ?_ hdb);refine callWith_K0 I.kIn M.kp ?_;have KX:=I.kIn;obtain⟨hh,gg,dr,tk,os⟩:=s;refine cq_2 PySem.F.excBase_ValueError (tl hh KX) (KX _ _ lc) (hn hh KX) hi fun h' a me za=> ?_;obtain⟨kk,new,t,et,_,_⟩:=me;have I2:Inv X zc σ H ⟨h',gg,dr,tk,os⟩:=I.kept (h':=h') (t':=tk) kk;refine⟨a,t,none,rfl,I2.kIn _ _ lc,et, ?_⟩;exact l1 zc σ H H ⟨hh,gg,dr,tk,os⟩ ⟨h',gg,dr,tk,os⟩ a C none _ _ I I2 et rfl rfl rfl rfl (I.hok.fresh za) za ⟨⟨c, [], []⟩,G,E.st.gh, .bare M.at_,q σ G H O E (Same.refl _)⟩
 refine wpAny_bind (wpAny_standAt (bg_1 hB (hr.hd rfl) (wpAny_bind (wpAny_mono mk (fun v s3 h3=>wpAny_bind (wpAny_standAt (wpAny_pure h3))) fun _ _ x=>x))))
end
end L3
namespace L3
open PySem L2
variable{K:Frag}{fd:FuncData}{mg:Str→Option Value}{P:Program}{vs:List V}{us:List Value}{base:Heap}{H:Hp}{X:Cx}{pos:Pos}{v:V}
abbrev Ai{a b:Prop}(x:a)(y:b):a∧b:=⟨x,y⟩
def evs:=Ai @bodyD.eq_1 (Ai @start3.eq_1 (Ai @sSeq.eq_1 (Ai @sSet.eq_1 (Ai @gsome.eq_1 (Ai @give1.eq_1 (Ai @List.foldl_cons.{0,0} (Ai @List.foldl_nil.{0,0} (Ai @sRet.eq_1 (Ai @sRetV.eq_1 (Ai @sIf.eq_1 (Ai @sExpr.eq_1 (Ai @sNil.eq_1 (Ai @vsh.eq_1 (Ai @vall.eq_1 (Ai @gall.eq_1 (Ai @cy_9 (Ai @cz_0 (Ai @cz_1 (Ai @ay_6 (Ai @ce_2 (Ai @dt_8 (Ai @dj_7 (Ai @dj_8 (Ai @dj_9 (Ai @eOp.eq_1 (Ai @eVar.eq_1 (Ai @eC.eq_1 (Ai @eTest.eq_1 (Ai @eTruth.eq_1 (Ai @truthD.eq_1 (Ai @truthD.eq_2 (Ai @truthD.eq_3 (Ai @truthD.eq_4 (Ai @truthD.eq_5 (Ai @truthD.eq_6 (Ai @truthD.eq_7 (Ai @boolD.eq_1 (Ai @boolD.eq_2 (Ai @eCall.eq_1 (Ai @eFn.eq_1 (Ai @R.calm_ok (Ai @R.calm_no (Ai @R.calm_ex (Ai @sPut.eq_1 (Ai @sPut.eq_2 (Ai @sPut.eq_3 (Ai @sPut.eq_4 (Ai @sPut.eq_5 (Ai @eAttr.eq_1 (Ai @eIsC.eq_1 (Ai @isND.eq_1 (Ai @isND.eq_2 (Ai @nonB.eq_1 (Ai @nonB.eq_2 (Ai @aNil.eq_1 (Ai @aCons.eq_1 (Ai @eTup.eq_1 (Ai @eLst.eq_1 (Ai @eIf.eq_1 (Ai @eAnd.eq_1 (Ai @eOr.eq_1 (Ai @eNot.eq_1 (Ai @tAndF.eq_1 (Ai @tOrF.eq_1 (Ai @tNotF.eq_1 (Ai @eIs.eq_1 (Ai @bw_3 (Ai @ce_4 (Ai @bw_4 (Ai @bw_5 (Ai @bw_6 (Ai @bw_7 (Ai @bm_8 (Ai @bw_8 (Ai @bm_9 (Ai @bn_0 (Ai @bn_1 (Ai @bn_2 (Ai @bw_9 (Ai @ce_5 (Ai @bx_0 (Ai @bx_1 (Ai @bx_2 (Ai @bx_3 (Ai @bn_3 (Ai @bx_4 (Ai @bn_4 (Ai @bn_5 (Ai @bn_6 (Ai @bn_7 (Ai @bd_2 (Ai @bn_8 (Ai @bd_3 (Ai @bd_4 (Ai @bd_5 (Ai @bd_6 (Ai @eSlice.eq_1 (Ai @oNone.eq_1 (Ai @oSome.eq_1 (Ai @intPart.eq_1 (Ai @intPart.eq_2 (Ai @eMeth.eq_1 (Ai @eMeth0.eq_1 (Ai @tyD.eq_1 (Ai @tyD.eq_2 (Ai @tyD.eq_3 (Ai @tyD.eq_4 (Ai @iArgs.eq_1 (Ai @iOf.eq_1 (Ai @itemsD.eq_1 (Ai @itemsD.eq_2 (Ai @itemsD.eq_3 (Ai @itemsD.eq_4 (Ai @R.bind_ok (Ai @R.bind_no (Ai @R.bind_ex (Ai @W.d_sh (Ai @W.d_ow (Ai @List.map_cons.{0,0} (Ai @List.map_nil.{0,0} (Ai @List.cons_append.{0} (Ai @List.nil_append.{0} (Ai @List.append_nil.{0} (Ai @List.replicate_succ.{0} (Ai @List.replicate_zero.{0} (Ai @List.length_cons.{0} (Ai @List.length_nil.{0} (Ai @List.set_cons_zero.{0} (Ai @List.set_cons_succ.{0} (Ai @List.getElem?_cons_zero.{0} (Ai @List.getElem?_cons_succ.{0} (Ai @if_true.{1} (Ai @if_false.{1} (Ai @flatD.eq_1 (Ai @flatD.eq_2 (Ai @flatD.eq_3 (Ai @flatD.eq_4 (Ai @flatD.eq_5 (Ai @Bool.false_eq_true (Ai @Bool.not_true (Ai @Bool.not_false (Ai @Bool.true_and (Ai @Bool.false_and (Ai @Nat.zero_add (Ai @decide_true (Ai @decide_false (Ai @gC.eq_1 (@gV.eq_1))))))))))))))))))))))))))))))))))))))))))))))))))))))))))))))))))))))))))))))))))))))))))))))))))))))))))))))))))))))))))))))))))))))))))))))))))))
end L3
namespace L3
open PySem PySem.Spec PyProof.Rows L2
variable{K:Frag}{fd:FuncData}{mg:Str→Option Value}{P:Program}{vs:List V}{us:List Value}{base:Heap}{H:Hp}{X:Cx}{pos:Pos}{v:V}
abbrev HBd(c:Bool)(P:Program)(w:World)(K:Frag)(mg:Str→Option Value)(base:Heap)(N:List Str)(qual:Str)(st:Stmt)(f:Addr)(k:Nat)(g:FS):Prop:=∀{zn:Value} {A:Around} {outer:List Env} {s:Shared} {H:Hp} {E:XK},(cxN c P w K mg base N qual (b_2 st) f zn A outer s H E).calm=c→RoomC c k (Cx.A (cxN c P w K mg base N qual (b_2 st) f zn A outer s H E))→(Cx.A (cxN c P w K mg base N qual (b_2 st) f zn A outer s H E)).units + 64 < cLine→N.Nodup→Lk (cxN c P w K mg base N qual (b_2 st) f zn A outer s H E) (fun _=>EXof K E)→
   BD (cxN c P w K mg base N qual (b_2 st) f zn A outer s H E) (fun _=>EXof K E) (e_1 st) g
theorem c_9{c:Bool}{w:World}{x qual:Str}{st:Stmt}{f:Addr}{N ps:List Str}{k:Nat}{g:FS}(F:Fun K x qual st f fd)
  (zh:HBd c P w K mg base N qual st f k g) (S:FnScope N ps (b_2 st):=by exact⟨rfl,rfl,rfl,by decide +kernel,rfl,by decide +kernel,by decide +kernel⟩):FnX P w K mg base c (k + 1) f fd ps (spX K ps.length (bodyD N.length g)):=
 fn_D F S fun zn A outer s H E hr=>zh rfl hr (RoomC.units hr) S.nd cd_0
theorem dz_0{c:Bool}{w:World}{x qual:Str}{st:Stmt}{f:Addr}{N ps:List Str}{k n:Nat}{g:FS}(F:Fun K x qual st f fd)(hn:ps.length=n + 1)(hle:ps.length≤N.length)
  (zh:HBd c P w K mg base N qual st f k g) (S:FnScope N ps (b_2 st):=by exact⟨rfl,rfl,rfl,by decide +kernel,rfl,by decide +kernel,by decide +kernel⟩):FnX P w K mg base c (k + 1) f fd ps (spM K n (bv_7 N.length g)):=
 fn_M F S hn hle fun zn A outer s H E hr=>zh rfl hr (RoomC.units hr) S.nd cd_0
theorem ck_3{c:Bool}{w:World}{x qual cn:Str}{st:Stmt}{f C:Addr}{N ps:List Str}{k n:Nat}{g:FS}(F:Fun K x qual st f fd)(hC:ClsAt K cn C)(hn:ps.length=n + 1)(hle:ps.length≤N.length)
  (zh:HBd c P w K mg base N qual st f k g) (S:FnScope N ps (b_2 st):=by exact⟨rfl,rfl,rfl,by decide +kernel,rfl,by decide +kernel,by decide +kernel⟩):FnX P w K mg base c (k + 1) f fd ps (spI K C n (ac_7 N.length cn g)):=
 fn_I F S hC hn hle fun zn A outer s H E hr=>zh rfl hr (RoomC.units hr) S.nd cd_0
def FnAt(K:Frag)(x qual:Str)(st:Stmt)(f:Addr):Prop:=∃fd,Fun K x qual st f fd
theorem FnAt.mk{x qual:Str}{st:Stmt}{f:Addr}{oc kV dc pm cd ct:Value}{od an:Option Addr}{sl:Array (Option Value)}
  (l:K.lookup f=some ⟨oc,od, .func (fnOf x qual (g_2 st) (e_1 st) (b_2 st) .none kV dc pm an cd ct),sl⟩) (c:codeIn K cd qual=true) (k:keepIn K (.ref f)=true):FnAt K x qual st f:=⟨_,an_9 l c k⟩
def FnTop(K:Frag)(x:Str)(st:Stmt):Prop:=∃f,nsIn K mainGlobals x=some (some (.ref f))∧FnAt K x x st f
theorem FnTop.mk{x:Str}{st:Stmt}{f:Addr}{oc kV dc pm cd ct:Value}{od an:Option Addr}{sl:Array (Option Value)}(a:nsIn K mainGlobals x=some (some (.ref f)))
  (l:K.lookup f=some ⟨oc,od, .func (fnOf x x (g_2 st) (e_1 st) (b_2 st) .none kV dc pm an cd ct),sl⟩) (c:codeIn K cd x=true) (k:keepIn K (.ref f)=true):FnTop K x st:=⟨f,a,FnAt.mk l c k⟩
def FnMet(K:Frag)(C:Addr)(x qual:Str)(st:Stmt):Prop:=∃f,findIn K (.ref C) x=some (some (.ref f))∧FnAt K x qual st f∧keepIn K (.ref f)=true∧isFn K (.ref f)=true
theorem FnMet.mk{C:Addr}{x qual:Str}{st:Stmt}{f:Addr}{oc kV dc pm cd ct:Value}{od an:Option Addr}{sl:Array (Option Value)}(a:findIn K (.ref C) x=some (some (.ref f)))
  (l:K.lookup f=some ⟨oc,od, .func (fnOf x qual (g_2 st) (e_1 st) (b_2 st) .none kV dc pm an cd ct),sl⟩) (c:codeIn K cd qual=true) (k:keepIn K (.ref f)=true) (i:isFn K (.ref f)=true):FnMet K C x qual st:=⟨f,a,FnAt.mk l c k,k,i⟩
theorem gcM{EX:EXS}{i:Nat}{x:Str}(hN:decide X.N.Nodup=true:=by kernel_rfl)(hi:X.N[i]? =some x:=by rfl)(hx:Loc X.env.scope x:=by first|exact Or.inl rfl|exact Or.inr rfl)
  (hf:X.fn x=true∨X.env.scope.names.lookup x=some .local:=by first|exact .inl rfl|exact .inr rfl|assumption):GC X EX (.Name x pos) (gC i):=dh_3 (of_decide_eq_true hN) hi hx hf
structure BaseI(K:Frag)(B f:Addr):Prop where
 sp:specialIn K (.ref B) "__getattribute__" =some (some (.builtin "type.__getattribute__"))
 rd:readsIn K B (.type "type")=true
 at_:findCls K (.ref B) (.type "type") "__init__" =some (.val (.ref f))
 kp:keepIn K (.ref f)=true
section
variable{X:Cx}{EX:EXS}{e:Expr}{es:List Expr}{x:Str}{pp zf pos:Pos}{cc:Bool}{k k' n:Nat}{ps:List Str}
end
def eIsO(tb:List (Str×Bool))(fo:FE):FE:=fun δ=>(fo δ).bind fun w=>match w.d with
 | .obj c _ _=>(match tb.lookup c with|some b=> .ok (.sh (.bl b))|none=> .no)
 |_=> .no
structure OInst(K:Frag)(C:Addr):Prop where
 pg:plainGet K C "__class__" =true
 hd:hasDictIn K C=true
 cl:findIn K (.ref C) "__class__" =some (some (.builtin "object.__class__"))
 gs:specialIn K (.builtin "object.__class__") "__get__" =some (some (.builtin "getset_descriptor.__get__"))
 tk:takesIn K (.builtin "object.__class__")=some true
 ob:mroIn K C (.type "object")=some true
def IsOneO(K:Frag)(v:Value)(tb:List (Str×Bool)):Prop:=∀c b,tb.lookup c=some b→∀C,ClsAt K c C→OInst K C∧kitOne K (.ref C) v=some b
theorem IsOneO.nil{v:Value}:IsOneO K v []:=fun _ _ e=>by cases e
theorem IsOneO.one{v:Value}{c:Str}{C:Addr}{b:Bool}(a:ClsAt K c C)(x:OInst K C)(h:kitOne K (.ref C) v=some b){tb:List (Str×Bool)}(r:IsOneO K v tb):IsOneO K v ((c,b)::tb):=fun c' b' e C' a'=>by
 rw [List.lookup_cons] at e;cases z:(c' ==c) with
 |true=>
  rw [z] at e;cases e;obtain rfl:c'=c:=eq_of_beq z;obtain rfl:=ClsAt.same a a';exact⟨x,h⟩
 |false=>rw [z] at e;exact r c' b' e C' a'
section
variable{X:Cx}{EX:EXS}{zc:List (Addr×Obj)}{σ:Sg}{G H:Hp}{s:Shared}
theorem cz_8{a:Addr}{c:Str}{ns:List Str}{vs:List D}(I:Inv X zc σ H s)(g:Same G H)(h:Has X.K G (.ref a) (.obj c ns vs)):∃C ox od,ClsAt X.K c C∧InstAt s.heap a ox C (some od):=by
 cases h with
 |obj hc h1 hl r=>
  obtain⟨_,_,_,eo,mA,ns,_⟩:=I.hok a _ (g _ _ h1);obtain⟨od,es,ep,e,_⟩:=ns;exact⟨_,_,od,hc,eo,rfl,rfl,e⟩
theorem cz_9{C2:Addr}{tb:List (Str×Bool)}(k:IsOneO X.K (.ref C2) tb):ab_2 X (.builtin "isinstance") (fun xs H Q=>∃G x c ns vs b,xs= [x, .ref C2]∧Same G H∧Has X.K G x (.obj c ns vs)∧tb.lookup c=some b∧Q (.bl b) H):=by
 intro zc s σ H xs us Q I rv h;obtain⟨G,x,c,ns,vs,b,rfl,g,r,e,q⟩:=h;obtain⟨u,u2',rfl,r1,rr⟩:=rv.two;obtain rfl:u2'=Value.ref C2:=rr;have fin:∀tk,EP X zc σ Q (.bool b) {s with toks:=tk}:=fun tk=>⟨.bl b,H,I.tok _,rfl,q⟩;obtain⟨a,rfl⟩:∃a,x= .ref a:=by cases r <;> exact⟨_,rfl⟩
 obtain rfl:u=Value.ref a:=r1;obtain⟨C,ox,od,hc,io⟩:=cz_8 I g r;obtain⟨xi,ko⟩:=k c b e C hc;exact kia_one (kitx_own xi.pg xi.hd xi.cl xi.gs xi.tk xi.ob) I.kIn io ko (fun z=>nomatch z) fin
variable{a:Expr}{fo:FE}{tb:List (Str×Bool)}{pp pos:Pos}
theorem bo_2{cn:Str}{C2:Addr}{p3:Pos}(k:IsOneO X.K (.ref C2) tb)(ha:ED X EX a fo)(hm:X.mg "isinstance" =none)(hmC:X.mg cn=some (.ref C2))(hg:Gl X "isinstance" :=by rfl)(hgC:Gl X cn:=by rfl)(hdC:(cn ==("__debug__" :Str))=false:=by decide)
  (he:starEach [a, .Name cn p3] X.env=(false,eval a X.env)::starEach [.Name cn p3] X.env:=by rfl) (hpl:(backTo pos (starEach [.Name cn p3] X.env)).any (·.1)=false:=by rfl)
  (hs:starEach [.Name cn p3] X.env=(false,eval (.Name cn p3) X.env)::starEach [] X.env:=by rfl):ED X EX (.Call (.Name "isinstance" pp) [a, .Name cn p3] [] pos) (eIsO tb fo):=
 PE.imp (ax_2 (cz_9 k) hg hm boot_isinstance (k_6 ha (k_6 (bk_2 (v:= .ref C2) hgC hmC rfl hdC) x_6 hs) he) (by decide) (by decide) he hpl) fun σ H Q ⟨G,δ,g0,s0,o⟩=>by
  refine tD.seq g0 s0 o fun w v G1 H1 _ st1 r1 o1=> ?_;revert r1 o1;cases w.d with
  |obj c ns vs=>
   intro r1 o1;have o1:Out X.K (EX σ) G1 H1 (match tb.lookup c with|some b=> .ok (.sh (.bl b))|none=> .no) Q:=o1;cases e:tb.lookup c with
   |none=>rw [e] at o1;exact o1.elim
   |some b=>rw [e] at o1;exact⟨G1,v,c,ns,vs,b,rfl,st1.gh,r1,e,WP.use o1 st1.gh (.bl b)⟩
  |_=>intro _ o1;exact False.elim o1
end
section
variable{X:Cx}{EX:EXS}{pos:Pos}
theorem HasL.len{G:Hp}:∀{vs:List V} {ds:List D},HasL K G vs ds→vs.length=ds.length
 |_,_, .nil=>rfl
 |_,_, .cons _ r=>congrArg Nat.succ r.len
end
def dn_4:D→D→R W
 | .bl b, .bl true=> .ok (.sh (.bl (!b)))
 | .non, .bl true=> .ok (.sh (.bl true))
 |_,_=> .no
theorem da_0:OpD X (compareOp .IsNot) dn_4:=by
 intro zc s σ H x y v u Q I rx ry q;obtain⟨EX,G,a,b,g,ra,rb,o⟩:=q;cases rb with
 |bl k=>
  cases k with
  |false=>cases ra <;> exact False.elim o
  |true=>
   cases ry;cases ra with
   |bl j=>
    cases rx;refine wpAny_pure ⟨.bl (!j),H,I, ?_,d_7 o g (.bl _)⟩;cases j <;> rfl
   |non=>
    cases rx;exact wpAny_pure ⟨.bl true,H,I,rfl,d_7 o g (.bl _)⟩
   |_=>exact False.elim o
 |_=>cases ra <;> exact False.elim o
end L3
namespace My
open PySem L2 L3
def bi_1:FS:=
  (sSeq (sSet 2 [0,1] (eOp j_0 (eOp g_0 (eOp d_8 (eVar 0) (eC (.int 1))) (eOp d_8 (eC (.int 48271)) (eOp g_0 (eC (.int 118)) (eVar 1)))) (eC (.int 2147483629))))
  (sRet [1,2] (eOp j_0 (eOp d_8 (eOp d_8 (eOp g_0 (eOp v_4 (eVar 2) (eC (.int 977))) (eC (.int 16807))) (eOp g_0 (eVar 2) (eOp d_8 (eOp g_0 (eVar 1) (eVar 1)) (eC (.int 7))))) (eVar 1)) (eC (.int 2147483587)))))
def v_2:List D→R W:=bodyD 3 bi_1
def o_4:FS:=
  (sSeq (sSet 7 [2,6] (eOp j_0 (eVar 6) (eCall h_6 (aCons (eVar 2) aNil))))
  (sIf [2,3,7] (tOrF (eTruth (eVar 3)) (eTest (eOp eqD (eOp ixD (eVar 2) (eVar 7)) (eC (.int 0)))))
   (sApp 5 (eFn 2 v_2 (aCons (eFn 2 v_2 (aCons (eOp j_0 (eOp ixD (eVar 4) (eVar 7)) (eC (.int 2147483647))) (aCons (eOp d_8 (eVar 6) (eC (.int 7))) aNil))) (aCons (eOp d_8 (eOp j_0 (eOp g_0 (eVar 6) (eVar 6)) (eC (.int 1009))) (eC (.int 3))) aNil))))
   (sSeq (sApp 5 (eOp j_0 (eOp ixD (eVar 2) (eVar 7)) (eC (.int 2147483587))))
  (ak_3 2 (eVar 7) (eOp v_4 (eOp ixD (eVar 2) (eVar 7)) (eC (.int 2147483587)))))))
def ar_6:FS:=
  (sSeq (sSet 2 [0] (eCall r_0 (aCons (eVar 0) aNil)))
  (sSeq (sIf [2] (eTest (eOp eqD (eVar 2) (eLst aNil)))
   (sSet 2 [] (eLst (aCons (eC (.int 0)) aNil)))
   sNil)
  (sSeq (sSet 3 [2] (eOp eqD (eOp j_0 (eOp ixD (eVar 2) (eC (.int 0))) (eC (.int 2))) (eC (.int 1))))
  (sSeq (ak_3 2 (eC (.int 0)) (eOp v_4 (eOp ixD (eVar 2) (eC (.int 0))) (eC (.int 2))))
  (sSeq (ar_4 4 (eCall r_0 (aCons (eVar 2) aNil)))
  (sSeq (sSet 5 [] (eLst aNil))
  (sSeq (g_1 [1] (iArgs n_7 (aCons (eVar 1) aNil)) (gV 6) o_4)
  (sRetV 5))))))))
def q_4:List D→R W:=bodyD 8 ar_6
def m_8:FS:=
  (sSeq (sSet 7 [6] (eOp v_4 (eVar 6) (eC (.int 6))))
  (sSeq (sSet 5 [3,4,5,7] (eOp d_8 (eVar 5) (eOp ixD (eVar 3) (eOp j_0 (eOp ixD (eVar 4) (eVar 7)) (eC (.int 39))))))
  (ak_3 4 (eVar 7) (eOp v_4 (eOp ixD (eVar 4) (eVar 7)) (eC (.int 39))))))
def p_4:FS:=
  (sSeq (sSet 3 [] (eC (.str "abcdefghijklmnopqrstuvwxyz0123456789-_ ")))
  (sSeq (sIf [0] (eTest (eOp eqD (eOp j_0 (eVar 0) (eC (.int 3))) (eC (.int 0))))
   (sRet [0,1] (eOp j_0 (eOp d_8 (eOp v_4 (eVar 0) (eC (.int 3))) (eOp g_0 (eC (.int 700000000)) (eVar 1))) (eOp powD (eC (.int 10)) (eC (.int 18)))))
   sNil)
  (sSeq (sIf [0] (eTest (eOp eqD (eOp j_0 (eVar 0) (eC (.int 3))) (eC (.int 2))))
   (sRet [0] (eOp j_0 (eOp v_4 (eVar 0) (eC (.int 3))) (eC (.int 50))))
   sNil)
  (sSeq (sSet 4 [0,1,2] (eLst (aCons (eOp d_8 (eOp g_0 (eOp v_4 (eVar 0) (eC (.int 36))) (eC (.int 1500000000))) (eVar 1)) (aCons (eVar 2) aNil))))
  (sSeq (sSet 5 [] (eC (.str "")))
  (sSeq (g_1 [0] (iArgs n_7 (aCons (eOp j_0 (eOp v_4 (eVar 0) (eC (.int 3))) (eC (.int 12))) aNil)) (gV 6) m_8)
  (sRetV 5)))))))
def g_3:List D→R W:=bodyD 8 p_4
def k_8:FS:=
  (sSeq (sSet 5 [1,4] (eOp d_8 (eVar 1) (eOp g_0 (eC (.int 3)) (eVar 4))))
  (sSeq (sSet 6 [0,5] (eFn 3 g_3 (aCons (eOp ixD (eVar 0) (eVar 5)) (aCons (eOp ixD (eVar 0) (eOp d_8 (eVar 5) (eC (.int 1)))) (aCons (eOp ixD (eVar 0) (eOp d_8 (eVar 5) (eC (.int 2)))) aNil)))))
  (sIf [3,6] (eTest (eOp (inD true) (eVar 6) (eVar 3)))
   (sApp 3 (eVar 6))
   sNil)))
def s_7:FS:=
  (sSeq (sSet 3 [] (eLst aNil))
  (sSeq (g_1 [2] (iArgs n_7 (aCons (eVar 2) aNil)) (gV 4) k_8)
  (sSeq (sIf [3] (eTest (eOp eqD (eVar 3) (eLst aNil)))
   (sSet 3 [0,1] (eLst (aCons (eOp j_0 (eOp ixD (eVar 0) (eVar 1)) (eC (.int 50))) aNil)))
   sNil)
  (sRetV 3))))
def f_7:List D→R W:=bodyD 7 s_7
def ai_1:FS:=
  (sSet 1 [1] (eOp g_0 (eVar 1) (eC (.int 2))))
def bx_8:FS:=
  (sSeq (sSet 1 [] (eC (.int 1)))
  (sSeq (g_1 [0] (iArgs n_7 (aCons (eVar 0) aNil)) (gV 2) ai_1)
  (sRetV 1)))
def j_8:List D→R W:=bodyD 3 bx_8
def p_5:FE:=
  (eOp (inD false) (eVar 1) (eC (.str "abcdefghijklmnopqrstuvwxyz0123456789-_ ")))
def ag_1:FS:=
  (sRet [0] (eAnd (eOp leD (eCall h_6 (aCons (eVar 0) aNil)) (eC (.int 11))) (eCall allD (aCons (c_1 1 (iOf (eVar 0)) (gC 1) (fun _=> .ok true) p_5) aNil))))
def o_5:List D→R W:=bodyD 1 ag_1
def ay_9:FS:=
  (sSeq (sIf [0] (eTruth (eIs "bool" (eVar 0)))
   (sRet [] (eC (.bl false)))
   sNil)
  (sSeq (sIf [0] (eTruth (eIs "int" (eVar 0)))
   (sRet [0] (ah_4 leD leD (eC (.int 0)) (eVar 0) (eC (.int 999999999999999999))))
   sNil)
  (sRet [0] (eAnd (eIs "str" (eVar 0)) (eFn 1 o_5 (aCons (eVar 0) aNil))))))
def v_9:List D→R W:=bodyD 1 ay_9
def r_6:FS:=
  (sIf [2] (tNotF (eTruth (eFn 1 v_9 (aCons (eVar 2) aNil))))
   (v_8 "NoKey" "at" [1] (eVar 1))
   sNil)
def ab_4:FS:=
  (g_1 [0] (s_3 (eVar 0)) (gV2 1 2) r_6)
def h_8:List D→R W:=bodyD 3 ab_4
def l_4:FS:=
  (sSeq (sIf [1,3] (eTest (eOp (inK false) (eVar 3) (eVar 1)))
   (v_8 "Twice" "at" [2] (eVar 2))
   sNil)
  (ak_5 1 [] (eVar 3) (eC (.bl true))))
def ag_2:FS:=
  (sSeq (sSet 1 [] ar_3)
  (g_1 [0] (s_3 (eVar 0)) (gV2 2 3) l_4))
def o_6:List D→R W:=bodyD 4 ag_2
def ar_7:FS:=
  (sSeq (sIf [0] (tOrF (eTest (eOp eqD (eCall h_6 (aCons (eVar 0) aNil)) (eC (.int 0)))) (eTest (eOp gtD (eCall h_6 (aCons (eVar 0) aNil)) (eC (.int 200)))))
   (aw_1 "NoKeys")
   sNil)
  (sSeq (sExpr [0] (eFn 1 h_8 (aCons (eVar 0) aNil)))
  (sSeq (sExpr [0] (eFn 1 o_6 (aCons (eVar 0) aNil)))
  (sRet [0] (eCall h_6 (aCons (eVar 0) aNil))))))
def h_0:List D→R W:=bodyD 1 ar_7
def ai_2:FS:=
  (sRet [0,1] (eAnd (eNot (eIs "bool" (eVar 0))) (ah_4 leD ltD (eC (.int 0)) (eVar 0) (eVar 1))))
def i_7:List D→R W:=bodyD 2 ai_2
def l_5:FS:=
  (sIf [1,2,3,4] (tOrF (eTest (eOp geD (eVar 3) (eVar 1))) (tNotF (eTruth (eFn 2 i_7 (aCons (eVar 4) (aCons (eVar 2) aNil))))))
   (v_8 "NoValue" "at" [3] (eVar 3))
   sNil)
def ag_3:FS:=
  (sSeq (g_1 [0] (s_3 (eVar 0)) (gV2 3 4) l_5)
  (sIf [0,1] (eTest (eOp ltD (eCall h_6 (aCons (eVar 0) aNil)) (eVar 1)))
   (v_8 "NoValue" "at" [0] (eCall h_6 (aCons (eVar 0) aNil)))
   sNil))
def h_1:List D→R W:=bodyD 5 ag_3
def ad_0:FS:=
  (sSeq (sIf [1] (eTest (eOp ltD (eVar 1) (eC (.int 3))))
   (sRet [0] (eOp d_8 (eOp d_8 (eVar 0) (eOp v_4 (eVar 0) (eC (.int 8)))) (eC (.int 1))))
   sNil)
  (sRet [0] (eOp d_8 (eOp v_4 (eOp g_0 (eC (.int 41)) (eVar 0)) (eC (.int 100))) (eC (.int 2)))))
def h_9:List D→R W:=bodyD 2 ad_0
def ap_7:FS:=
  (sSet 1 [1,2] (eOp d_8 (eOp d_8 (eOp g_0 (eC (.int 40)) (eVar 1)) (eMeth "str" bv_1 (eC (.str "abcdefghijklmnopqrstuvwxyz0123456789-_ ")) (aCons (eVar 2) aNil))) (eC (.int 1))))
def ck_4:FS:=
  (sSeq (sSet 1 [] (eC (.int 0)))
  (sSeq (g_1 [0] (iOf (eVar 0)) (gV 2) ap_7)
  (sRetV 1)))
def ak_8:List D→R W:=bodyD 3 ck_4
def bo_3:FS:=
  (sSeq (sIf [0] (tNotF (eTruth (eFn 1 v_9 (aCons (eVar 0) aNil))))
   (v_8 "NoKey" "at" [] (eC (.int 0)))
   sNil)
  (sSeq (sIf [0] (eTruth (eIs "str" (eVar 0)))
   (sRet [0] (eOp d_8 (eOp g_0 (eC (.int 2)) (eFn 1 ak_8 (aCons (eVar 0) aNil))) (eC (.int 1))))
   sNil)
  (sRet [0] (eOp g_0 (eC (.int 2)) (eVar 0)))))
def aa_2:List D→R W:=bodyD 1 bo_3
def ck_5:FS:=
  (sSeq (sIf [2] (eTest (eOp eqD (eVar 2) (eC (.int 0))))
   (sRet [] (eC (.int 0)))
   sNil)
  (sSeq (sSet 3 [1] (eOp d_8 (eC (.int 1)) (eOp j_0 (eOp d_8 (eOp g_0 (eC (.int 1103515245)) (eVar 1)) (eC (.int 12345))) (eOp subD (eC (.int 2305843009213693951)) (eC (.int 1))))))
  (sSeq (sSet 4 [1] (eOp j_0 (eOp d_8 (eOp g_0 (eOp g_0 (eC (.int 69069)) (eVar 1)) (eVar 1)) (eOp g_0 (eC (.int 7)) (eVar 1))) (eC (.int 2305843009213693951))))
  (sSeq (sSet 5 [0,3,4] (eOp j_0 (eOp d_8 (eOp g_0 (eVar 3) (eVar 0)) (eVar 4)) (eC (.int 2305843009213693951))))
  (sRet [2,5] (eOp j_0 (eOp d_8 (eVar 5) (eOp v_4 (eVar 5) (eC (.int 2147483648)))) (eVar 2)))))))
def ae_8:List D→R W:=bodyD 6 ck_5
def t_3:FE:=
  (eOp d_8 (eOp g_0 (eVar 5) (eVar 3)) (eFn 3 ae_8 (aCons (eVar 4) (aCons (eOp d_8 (eOp g_0 (eC (.int 4)) (eVar 1)) (eVar 5)) (aCons (eVar 3) aNil)))))
def ar_8:FS:=
  (sSeq (sSet 4 [0] (eFn 1 aa_2 (aCons (eVar 0) aNil)))
  (sRet [1,2,3,4] (eCall bu_2 (aCons (c_1 1 (iArgs n_7 (aCons (eVar 2) aNil)) (gC 5) (fun _=> .ok true) t_3) aNil))))
def f_9:List D→R W:=bodyD 5 ar_8
def aa_3:FE:=
  (eFn 4 f_9 (aCons (eVar 4) (aCons (eVar 1) (aCons (eVar 2) (aCons (eVar 3) aNil)))))
def az_0:FS:=
  (sSeq (sSet 3 [0,2] (eFn 2 h_9 (aCons (eFn 1 h_0 (aCons (eVar 0) aNil)) (aCons (eVar 2) aNil))))
  (sRet [0,1,2,3] (c_1 1 (iOf (eVar 0)) (gC 4) (fun _=> .ok true) aa_3)))
def s_8:List D→R W:=bodyD 4 az_0
def l_6:FS:=
  (sSeq (sIf [1,4] (eTest (eOp (inK true) (eVar 4) (eVar 1)))
   (bh_5 1 (eVar 4))
   sNil)
  (bh_4 1 (eVar 4) (eVar 2) (eC (.bl true))))
def l_7:FS:=
  (g_1 [3] (iOf (eVar 3)) (gV 4) l_6)
def x_8:FS:=
  (sSeq (sSet 1 [] ar_3)
  (sSeq (g_1 [0] (s_3 (eVar 0)) (gV2 2 3) l_7)
  (sRetV 1)))
def o_7:List D→R W:=bodyD 5 x_8
def x_9:FS:=
  (cj_3 2 (eVar 3) (eVar 0))
def ar_9:FS:=
  (g_1 [1] (iOf (eVar 1)) (gV 3) x_9)
def n_2:List D→Tn→Option Tn:=bv_7 4 ar_9
def aa_4:FT:=
  (eTest (eOp gtD (eCall h_6 (aCons (eVar 3) aNil)) (eC (.int 0))))
def s_9:FS:=
  (sSeq (bv_6 7 3)
  (sIf [2,7] (eTest (eOp eqD (eCall lenK (aCons (eOp getK (eVar 2) (eVar 7)) aNil)) (eC (.int 1))))
   (sSeq (sSet 8 [2,7] (eCall minK (aCons (eOp getK (eVar 2) (eVar 7)) aNil)))
  (sSeq (sApp 4 (eTup (aCons (eVar 8) (aCons (eVar 7) aNil))))
  (sSeq (ak_5 5 [] (eVar 8) (eC (.bl true)))
  (sSeq (ay_5 2 n_2 (eVar 8) (eOp ixD (eVar 0) (eVar 8)))
  (sExt 3 (eOp ixD (eVar 0) (eVar 8)))))))
   sNil))
def k_9:FT:=
  (eTest (eOp (inK true) (eVar 9) (eVar 5)))
def bx_9:FS:=
  (sSeq (sSet 2 [0] (eFn 1 o_7 (aCons (eVar 0) aNil)))
  (sSeq (ar_4 3 (eCall cj_5 (aCons (eVar 2) aNil)))
  (sSeq (sSet 4 [] (eLst aNil))
  (sSeq (sSet 5 [] ar_3)
  (sSeq (i_4 [3] aa_4 s_9 3000)
  (sSeq (sSet 6 [0,5] (c_1 1 (iArgs n_7 (aCons (eCall h_6 (aCons (eVar 0) aNil)) aNil)) (gC 9) k_9 (eVar 9)))
  (cy_1 4 6)))))))
def ak_9:List D→R W:=bodyD 9 bx_9
def da_1:FS:=
  (sSeq (sSet 3 [0,1,2] (eFn 3 s_8 (aCons (eVar 0) (aCons (eVar 1) (aCons (eVar 2) aNil)))))
  (sRet [0,2,3] (eFn 2 ak_9 (aCons (eVar 3) (aCons (eOp g_0 (eVar 2) (eFn 2 h_9 (aCons (eCall h_6 (aCons (eVar 0) aNil)) (aCons (eVar 2) aNil)))) aNil)))))
def ai_3:List D→R W:=bodyD 4 da_1
def az_1:FS:=
  (sSeq (sSet 3 [0,1,2] (eOp ixD (eFn 3 ai_3 (aCons (eVar 0) (aCons (eVar 1) (aCons (eVar 2) aNil)))) (eC (.int 1))))
  (sRet [3] (eOp eqD (eCall h_6 (aCons (eVar 3) aNil)) (eC (.int 0)))))
def f_8:List D→R W:=bodyD 4 az_1
def m_1:FS:=
  (sIf [0,1,3] (eTruth (eFn 3 f_8 (aCons (eVar 0) (aCons (eVar 3) (aCons (eVar 1) aNil)))))
   (sRetV 3)
   sNil)
def ad_1:FS:=
  (sSeq (sExpr [0] (eFn 1 h_0 (aCons (eVar 0) aNil)))
  (sSeq (g_1 [2] (iArgs n_7 (aCons (eVar 2) aNil)) (gV 3) m_1)
  (aw_1 "NoTry")))
def c_0:List D→R W:=bodyD 4 ad_1
def as_0:FS:=
  (sRet [0,1] (eIf (eTest (eOp eqD (eVar 1) (eC (.int 0)))) (eC (.int 0)) (eOp j_0 (eVar 0) (eVar 1))))
def q_5:List D→R W:=bodyD 2 as_0
def w_0:FE:=
  (eOp ixD (eVar 0) (eVar 4))
def w_1:FT:=
  (eTruth (eFn 2 i_7 (aCons (eVar 4) (aCons (eCall h_6 (aCons (eVar 0) aNil)) aNil))))
def by_0:FS:=
  (sSeq (sSet 3 [0,1] (c_1 1 (iOf (eVar 1)) (gC 4) w_1 w_0))
  (sRet [2,3] (eFn 2 q_5 (aCons (eCall sumD (aCons (eVar 3) aNil)) (aCons (eVar 2) aNil)))))
def n_3:List D→R W:=bodyD 4 by_0
def ai_4:FS:=
  (sSeq (sSet 8 [0,3,4,5,6] (eOp subD (eOp ixD (eVar 3) (eVar 6)) (eFn 3 n_3 (aCons (eVar 5) (aCons (eOp ixD (eVar 0) (eVar 6)) (aCons (eVar 4) aNil))))))
  (sIf [1,7] (eTruth (eFn 2 i_7 (aCons (eVar 7) (aCons (eVar 1) aNil))))
   (ci_9 5 [4,8] (eVar 7) (eFn 2 q_5 (aCons (eVar 8) (aCons (eVar 4) aNil))))
   sNil))
def by_1:FS:=
  (sSeq (sSet 5 [1] (eRep (aCons (eC (.int 0)) aNil) (eVar 1)))
  (sSeq (g_1 [2] (iRev (eVar 2)) (gV2 6 7) ai_4)
  (sRetV 5)))
def ad_2:List D→R W:=bodyD 9 by_1
def ap_8:FS:=
  (sSeq (l_3 0 ["Table"] "by_salt" [1] (eVar 1))
  (sSeq (l_3 0 ["Table"] "kind" [2] (eVar 2))
  (sSeq (l_3 0 ["Table"] "part" [3] (eVar 3))
  (sSeq (l_3 0 ["Table"] "modulus" [4] (eVar 4))
  (l_3 0 ["Table"] "listed" [5] (eVar 5))))))
def aa_5:List D→R (List Str×List D):=ac_7 6 "Table" ap_8
def as_1:FS:=
  (sSeq (sSet 5 [0,2] (eFn 2 h_9 (aCons (eCall h_6 (aCons (eVar 0) aNil)) (aCons (eVar 2) aNil))))
  (sSeq (sSet 6 [0,1,2] (eFn 3 s_8 (aCons (eVar 0) (aCons (eVar 1) (aCons (eVar 2) aNil)))))
  (sSeq (sSet 7 [0,1,2] (eOp ixD (eFn 3 ai_3 (aCons (eVar 0) (aCons (eVar 1) (aCons (eVar 2) aNil)))) (eC (.int 0))))
  (sRet [1,2,3,4,5,6,7] (ab_3 "Table" 5 aa_5 (aCons (eVar 1) (aCons (eVar 2) (aCons (eVar 5) (aCons (eVar 3) (aCons (eFn 5 ad_2 (aCons (eVar 6) (aCons (eOp g_0 (eVar 2) (eVar 5)) (aCons (eVar 7) (aCons (eVar 4) (aCons (eVar 3) aNil)))))) aNil))))))))))
def k_2:List D→R W:=bodyD 8 as_1
def u_3:FS:=
  (sSeq (sSet 6 [3] (eFn 1 j_8 (aCons (eVar 3) aNil)))
  (sSeq (l_3 0 ["Kept", "Marked", "PeeledAgain", "OrderedAgain", "KeptAgain", "MarkedAgain"] "how_many" [1] (eFn 1 h_0 (aCons (eVar 1) aNil)))
  (sSeq (sExpr [1,2,6] (eFn 3 h_1 (aCons (eVar 2) (aCons (eCall h_6 (aCons (eVar 1) aNil)) (aCons (eVar 6) aNil)))))
  (sSeq (sSet 7 [1,4,5] (eFn 3 c_0 (aCons (eVar 1) (aCons (eVar 4) (aCons (eVar 5) aNil)))))
  (sSeq (l_3 0 ["Kept", "Marked", "KeptAgain", "MarkedAgain"] "width" [3] (eVar 3))
  (l_3 0 ["Kept", "Marked", "PeeledAgain", "OrderedAgain", "KeptAgain", "MarkedAgain"] "own_table" [1,2,4,6,7] (eFn 5 k_2 (aCons (eVar 1) (aCons (eVar 7) (aCons (eVar 4) (aCons (eVar 6) (aCons (eVar 2) aNil))))))))))))
def aa_6:List D→R (List Str×List D):=ac_7 8 "Kept" u_3
def da_2:FS:=
  (sRet [0,1] (eFn 3 ae_8 (aCons (eFn 1 aa_2 (aCons (eVar 0) aNil)) (aCons (eC (.int 3)) (aCons (eFn 1 j_8 (aCons (eVar 1) aNil)) aNil)))))
def aa_7:List D→R W:=bodyD 2 da_2
def j_2:FE:=
  (eFn 2 aa_7 (aCons (eVar 6) (aCons (eVar 2) aNil)))
def r_7:FS:=
  (sSeq (sSet 5 [1,3,4] (eFn 3 c_0 (aCons (eVar 1) (aCons (eVar 3) (aCons (eVar 4) aNil)))))
  (sSeq (l_3 0 ["Kept", "Marked", "PeeledAgain", "OrderedAgain", "KeptAgain", "MarkedAgain"] "how_many" [1] (eCall h_6 (aCons (eVar 1) aNil)))
  (sSeq (l_3 0 ["Kept", "Marked", "KeptAgain", "MarkedAgain"] "width" [2] (eVar 2))
  (l_3 0 ["Kept", "Marked", "PeeledAgain", "OrderedAgain", "KeptAgain", "MarkedAgain"] "own_table" [1,2,3,5] (eFn 5 k_2 (aCons (eVar 1) (aCons (eVar 5) (aCons (eVar 3) (aCons (eFn 1 j_8 (aCons (eVar 2) aNil)) (aCons (c_1 1 (iOf (eVar 1)) (gC 6) (fun _=> .ok true) j_2) aNil))))))))))
def r_8:List D→R (List Str×List D):=ac_7 6 "Marked" r_7
def g_7:FS:=
  (sIf [0] (eTest (eOp eqD (eVar 0) (eC (.int 0))))
   (sSet 6 [1,2,3,4,5] (ab_3 "Kept" 5 aa_6 (aCons (eVar 1) (aCons (eVar 2) (aCons (eVar 3) (aCons (eVar 4) (aCons (eVar 5) aNil)))))))
   (sSet 6 [1,3,4,5] (ab_3 "Marked" 4 r_8 (aCons (eVar 1) (aCons (eVar 3) (aCons (eVar 4) (aCons (eVar 5) aNil)))))))
def aa_8:FS:=
  (sSet 6 [] (eC .non))
def ai_5:FS:=
  (sSeq (sSet 6 [] (eC .non))
  (sSeq (ay_8 g_7 [⟨none, [("NoBits",false),("NoKey",false),("NoKeys",false),("NoRange",false),("NoTry",true),("NoValue",false),("Twice",false)],aa_8⟩])
  (sRetV 6)))
def d_4:List D→R W:=bodyD 7 ai_5
def ai_6:FS:=
  (sRet [0,1] (eOp ixD (eLst (aCons (eOp d_8 (eOp d_8 (eVar 0) (eOp v_4 (eVar 0) (eC (.int 8)))) (eC (.int 1))) (aCons (eOp d_8 (eOp v_4 (eOp g_0 (eC (.int 41)) (eVar 0)) (eC (.int 100))) (eC (.int 2))) aNil))) (eOp subD (eVar 1) (eC (.int 2)))))
def p_8:List D→R W:=bodyD 2 ai_6
def y_0:FS:=
  (sSet 1 [1,2] (eOp d_8 (eOp d_8 (eOp g_0 (eVar 1) (eC (.int 40))) (eMeth "str" ao_8 (eC (.str "abcdefghijklmnopqrstuvwxyz0123456789-_ ")) (aCons (eVar 2) aNil))) (eC (.int 1))))
def ad_3:FS:=
  (sSeq (sIf [0] (eTruth (eIs "int" (eVar 0)))
   (sRet [0] (eOp g_0 (eC (.int 2)) (eVar 0)))
   sNil)
  (sSeq (sSet 1 [] (eC (.int 0)))
  (sSeq (g_1 [0] (iOf (eVar 0)) (gV 2) y_0)
  (sRet [1] (eOp d_8 (eOp g_0 (eC (.int 2)) (eVar 1)) (eC (.int 1)))))))
def q_6:List D→R W:=bodyD 3 ad_3
def as_2:FS:=
  (sSeq (sSet 3 [] (eC (.int 2305843009213693951)))
  (sSeq (sSet 4 [1,3] (eOp d_8 (eC (.int 1)) (eOp j_0 (eOp d_8 (eOp g_0 (eC (.int 1103515245)) (eVar 1)) (eC (.int 12345))) (eOp subD (eVar 3) (eC (.int 1))))))
  (sSeq (sSet 5 [1,3] (eOp j_0 (eOp d_8 (eOp g_0 (eOp g_0 (eC (.int 69069)) (eVar 1)) (eVar 1)) (eOp g_0 (eC (.int 7)) (eVar 1))) (eVar 3)))
  (sSeq (sSet 6 [0,3,4,5] (eOp j_0 (eOp d_8 (eOp g_0 (eVar 4) (eVar 0)) (eVar 5)) (eVar 3)))
  (sRet [2,6] (eOp j_0 (eOp d_8 (eVar 6) (eOp v_4 (eVar 6) (eC (.int 2147483648)))) (eVar 2)))))))
def k_3:List D→R W:=bodyD 7 as_2
def r_9:FE:=
  (eOp d_8 (eOp g_0 (eVar 5) (eVar 3)) (eFn 3 k_3 (aCons (eVar 4) (aCons (eOp d_8 (eOp g_0 (eC (.int 4)) (eVar 1)) (eVar 5)) (aCons (eVar 3) aNil)))))
def al_0:FS:=
  (sSeq (sSet 4 [0] (eFn 1 q_6 (aCons (eVar 0) aNil)))
  (sRet [1,2,3,4] (eCall bu_2 (aCons (c_1 1 (iArgs n_7 (aCons (eVar 2) aNil)) (gC 5) (fun _=> .ok true) r_9) aNil))))
def i_0:List D→R W:=bodyD 5 al_0
def t_4:FE:=
  (eOp ixD (eVar 0) (eVar 3))
def as_3:FS:=
  (sRet [0,1,2] (eOp j_0 (eCall sumD (aCons (c_1 1 (iOf (eVar 1)) (gC 3) (fun _=> .ok true) t_4) aNil)) (eVar 2)))
def k_4:List D→R W:=bodyD 3 as_3
def bo_4:FS:=
  (sRet [0] (h_7 ["Table"] "by_salt" (eVar 0)))
def s_0:List D→R W:=bodyD 1 bo_4
def bd_7:FS:=
  (sRet [0] (d_2 "salt" 0 [("Table",s_0)] (h_7 ["Kept", "Marked", "PeeledAgain", "OrderedAgain", "KeptAgain", "MarkedAgain"] "own_table" (eVar 0)) aNil))
def f_0:List D→R W:=bodyD 1 bd_7
def bd_8:FS:=
  (sRet [0] (eCall r_0 (aCons (h_7 ["Table"] "listed" (eVar 0)) aNil)))
def i_8:List D→R W:=bodyD 1 bd_8
def az_2:FS:=
  (sRet [0] (d_2 "table" 0 [("Table",i_8)] (h_7 ["Kept", "Marked", "PeeledAgain", "OrderedAgain", "KeptAgain", "MarkedAgain"] "own_table" (eVar 0)) aNil))
def e_6:List D→R W:=bodyD 1 az_2
def ad_4:FS:=
  (sRet [0,1] (eFn 4 f_9 (aCons (eVar 1) (aCons (h_7 ["Table"] "by_salt" (eVar 0)) (aCons (h_7 ["Table"] "kind" (eVar 0)) (aCons (h_7 ["Table"] "part" (eVar 0)) aNil))))))
def d_6:List D→R W:=bodyD 2 ad_4
def ag_4:FS:=
  (sRet [0,1] (eFn 3 n_3 (aCons (h_7 ["Table"] "listed" (eVar 0)) (aCons (d_2 "places" 1 [("Table",d_6)] (eVar 0) (aCons (eVar 1) aNil)) (aCons (h_7 ["Table"] "modulus" (eVar 0)) aNil)))))
def b_7:List D→R W:=bodyD 2 ag_4
def ad_5:FS:=
  (sRet [0,1] (eOp eqD (d_2 "total" 1 [("Table",b_7)] (h_7 ["Kept", "Marked", "PeeledAgain", "OrderedAgain", "KeptAgain", "MarkedAgain"] "own_table" (eVar 0)) (aCons (eVar 1) aNil)) (eFn 2 aa_7 (aCons (eVar 1) (aCons (h_7 ["Kept", "Marked", "KeptAgain", "MarkedAgain"] "width" (eVar 0)) aNil)))))
def b_6:List D→R W:=bodyD 2 ad_5
def ab_5:FS:=
  (sRet [0,1] (d_2 "places" 1 [("Table",d_6)] (h_7 ["Kept", "Marked", "PeeledAgain", "OrderedAgain", "KeptAgain", "MarkedAgain"] "own_table" (eVar 0)) (aCons (eVar 1) aNil)))
def e_7:List D→R W:=bodyD 2 ab_5
def al_1:FS:=
  (sRet [0,1] (d_2 "total" 1 [("Table",b_7)] (h_7 ["Kept", "Marked", "PeeledAgain", "OrderedAgain", "KeptAgain", "MarkedAgain"] "own_table" (eVar 0)) (aCons (eVar 1) aNil)))
def d_9:List D→R W:=bodyD 2 al_1
def bo_5:FS:=
  (sRet [0] (d_2 "table" 0 [("Table",i_8)] (h_7 ["Kept", "Marked", "PeeledAgain", "OrderedAgain", "KeptAgain", "MarkedAgain"] "own_table" (eVar 0)) aNil))
def i_1:List D→R W:=bodyD 1 bo_5
def o_8:FS:=
  (sSeq (sSet 9 [1,4,6,8] (eFn 4 i_0 (aCons (eVar 8) (aCons (d_2 "salt" 0 [("Marked",f_0)] (eVar 1) aNil) (aCons (eVar 4) (aCons (eVar 6) aNil))))))
  (sSeq (sSet 10 [1,5,8,9] (eOp eqD (eFn 3 k_4 (aCons (d_2 "table" 0 [("Marked",e_6)] (eVar 1) aNil) (aCons (eVar 9) (aCons (eVar 5) aNil)))) (eFn 3 k_3 (aCons (eOp g_0 (eC (.int 2)) (eVar 8)) (aCons (eC (.int 3)) (aCons (eVar 5) aNil))))))
  (sSeq (sSet 11 [1,8] (d_2 "knows" 1 [("Marked",b_6)] (eVar 1) (aCons (eVar 8) aNil)))
  (sSeq (sIf [1,8,9,10,11] (tOrF (tNotF (eTruth (eIs "bool" (eVar 11)))) (tOrF (eTest (eOp neD (eVar 11) (eVar 10))) (eTest (eOp neD (d_2 "places" 1 [("Marked",e_7)] (eVar 1) (aCons (eVar 8) aNil)) (eVar 9)))))
   (sRet [] (eC .non))
   sNil)
  (sSeq (sIf [0,5,8,9] (eTest (eOp neD (d_2 "value" 1 [("Kept",d_9)] (eVar 0) (aCons (eVar 8) aNil)) (eFn 3 k_4 (aCons (d_2 "table" 0 [("Kept",i_1)] (eVar 0) aNil) (aCons (eVar 9) (aCons (eVar 5) aNil))))))
   (sRet [] (eC .non))
   sNil)
  (sIf [2,8,10] (tAndF (eTruth (eVar 10)) (eTest (eOp (inD true) (eVar 8) (eVar 2))))
   (sApp 7 (eVar 8))
   sNil))))))
def as_4:FS:=
  (sSeq (sSet 6 [2,4] (eFn 2 p_8 (aCons (eCall h_6 (aCons (eVar 2) aNil)) (aCons (eVar 4) aNil))))
  (sSeq (sSet 7 [] (eLst aNil))
  (sSeq (g_1 [3] (iOf (eVar 3)) (gV 8) o_8)
  (sRetV 7))))
def q_7:List D→R W:=bodyD 12 as_4
def u_6:FS:=
  (sRet [0,1] (eOp eqD (d_2 "total" 1 [("Table",b_7)] (h_7 ["Kept", "Marked", "PeeledAgain", "OrderedAgain", "KeptAgain", "MarkedAgain"] "own_table" (eVar 0)) (aCons (eVar 1) aNil)) (eFn 2 aa_7 (aCons (eVar 1) (aCons (h_7 ["Kept", "Marked", "KeptAgain", "MarkedAgain"] "width" (eVar 0)) aNil)))))
def c_5:List D→R W:=bodyD 2 u_6
def v_0:FS:=
  (ak_5 4 [] (eVar 5) (eC (.bl true)))
def n_9:FT:=
  (tAndF (eTest (eOp (inK true) (eVar 8) (eVar 4))) (eTruth (d_2 "knows" 1 [("Marked",b_6),("MarkedAgain",c_5)] (eVar 0) (aCons (eVar 8) aNil))))
def az_3:FS:=
  (sSeq (sExpr [1] (eFn 1 h_8 (aCons (eVar 1) aNil)))
  (sSeq (sIf [2,3] (eTest (eOp geD (eOp subD (eVar 3) (eVar 2)) (eC (.int 2000))))
   (aw_1 "NoRange")
   sNil)
  (sSeq (sSet 4 [] ar_3)
  (sSeq (g_1 [1] (iOf (eVar 1)) (gV 5) v_0)
  (sSeq (sSet 6 [2] (eCall maxD (aCons (eVar 2) (aCons (eC (.int 0)) aNil))))
  (sSeq (sSet 7 [3] (eOp d_8 (eCall minD (aCons (eVar 3) (aCons (eC (.int 999999999999999999)) aNil))) (eC (.int 1))))
  (sRet [0,4,6,7] (c_1 1 (iArgs rng2 (aCons (eVar 6) (aCons (eVar 7) aNil))) (gC 8) n_9 (eVar 8)))))))))
def p_9:List D→R W:=bodyD 8 az_3
def ag_5:FS:=
  (sSeq (sIf [1] (eTest (eOp ltD (eVar 1) (eC (.int 1))))
   (sRet [0] (eOp eqD (eVar 0) (eC (.int 0))))
   sNil)
  (sRet [0,1] (eOp eqD (eOp j_0 (eVar 0) (eVar 1)) (eC (.int 0)))))
def o_9:List D→R W:=bodyD 2 ag_5
def y_1:FS:=
  (sIf [3] (tAndF (eTest (eOp neD (eVar 3) (eC (.str "0")))) (eTest (eOp neD (eVar 3) (eC (.str "1")))))
   (v_8 "NoBits" "at" [2] (eVar 2))
   sNil)
def as_5:FS:=
  (sSeq (g_1 [0] (s_3 (eVar 0)) (gV2 2 3) y_1)
  (sIf [0,1] (tNotF (eTruth (eFn 2 o_9 (aCons (eCall h_6 (aCons (eVar 0) aNil)) (aCons (eVar 1) aNil)))))
   (v_8 "NoBits" "at" [0] (eCall h_6 (aCons (eVar 0) aNil)))
   sNil))
def t_7:List D→R W:=bodyD 4 as_5
def u_4:FS:=
  (sSet 1 [1,2] (eOp d_8 (eOp g_0 (eC (.int 2)) (eVar 1)) (eIf (eTest (eOp eqD (eVar 2) (eC (.str "1")))) (eC (.int 1)) (eC (.int 0)))))
def ag_6:FS:=
  (sSeq (sSet 1 [] (eC (.int 0)))
  (sSeq (g_1 [0] (iOf (eVar 0)) (gV 2) u_4)
  (sRetV 1)))
def p_0:List D→R W:=bodyD 3 ag_6
def p_1:FT:=
  (eTest (eOp ltD (eVar 3) (eCall h_6 (aCons (eVar 0) aNil))))
def t_5:FS:=
  (sSeq (sApp 2 (eFn 1 p_0 (aCons (eSlice (eVar 0) (oSome (eVar 3)) (oSome (eOp d_8 (eVar 3) (eVar 1)))) aNil)))
  (sSet 3 [1,3] (eOp d_8 (eVar 3) (eVar 1))))
def as_6:FS:=
  (sSeq (sExpr [0,1] (eFn 2 t_7 (aCons (eVar 0) (aCons (eVar 1) aNil))))
  (sSeq (sSet 2 [] (eLst aNil))
  (sSeq (sSet 3 [] (eC (.int 0)))
  (sSeq (i_4 [0,3] p_1 t_5 3000)
  (sRetV 2)))))
def t_8:List D→R W:=bodyD 4 as_6
def ab_6:FS:=
  (sRet [0,1,2] (eIf (eTest (eOp gtD (eVar 1) (eC (.int 0)))) (eFn 2 t_8 (aCons (eVar 0) (aCons (eVar 1) aNil))) (eRep (aCons (eC (.int 0)) aNil) (eVar 2))))
def l_8:List D→R W:=bodyD 3 ab_6
def aa_9:FS:=
  (sSeq (l_3 0 ["Kept", "Marked", "PeeledAgain", "OrderedAgain", "KeptAgain", "MarkedAgain"] "how_many" [1] (eVar 1))
  (sSeq (l_3 0 ["Kept", "Marked", "PeeledAgain", "OrderedAgain", "KeptAgain", "MarkedAgain"] "own_table" [2] (eVar 2))
  (l_3 0 ["Kept", "Marked", "KeptAgain", "MarkedAgain"] "width" [3] (eVar 3))))
def p_2:List D→R (List Str×List D):=ac_7 4 "MarkedAgain" aa_9
def az_4:FS:=
  (sSeq (sSet 7 [1,3] (eFn 2 h_9 (aCons (eVar 3) (aCons (eVar 1) aNil))))
  (sSeq (sSet 8 [1,4,5,7] (eFn 3 l_8 (aCons (eVar 5) (aCons (eVar 4) (aCons (eOp g_0 (eVar 1) (eVar 7)) aNil)))))
  (sSeq (sIf [0] (eTest (eOp eqD (eVar 0) (eC (.str "peeled"))))
   ah_5
   sNil)
  (sSeq (sIf [0] (eTest (eOp eqD (eVar 0) (eC (.str "ordered"))))
   ah_5
   sNil)
  (sSeq (sSet 9 [1,2,4,7,8] (ab_3 "Table" 5 aa_5 (aCons (eVar 2) (aCons (eVar 1) (aCons (eVar 7) (aCons (eFn 1 j_8 (aCons (eVar 4) aNil)) (aCons (eVar 8) aNil)))))))
  (sSeq (sIf [0] (eTest (eOp eqD (eVar 0) (eC (.str "kept"))))
   ah_5
   sNil)
  (sRet [3,4,9] (ab_3 "MarkedAgain" 3 p_2 (aCons (eVar 3) (aCons (eVar 9) (aCons (eVar 4) aNil)))))))))))
def w_2:List D→R W:=bodyD 10 az_4
def al_2:FS:=
  (sRet [0] (eFn 7 w_2 (aCons (eOp ixD (eVar 0) (eC (.int 0))) (aCons (eOp ixD (eVar 0) (eC (.int 1))) (aCons (eOp ixD (eVar 0) (eC (.int 2))) (aCons (eOp ixD (eVar 0) (eC (.int 3))) (aCons (eOp ixD (eVar 0) (eC (.int 4))) (aCons (eOp ixD (eVar 0) (eC (.int 5))) (aCons (eOp ixD (eVar 0) (eC (.int 6))) aNil)))))))))
def i_2:List D→R W:=bodyD 1 al_2
def q_0:FS:=
  (sSeq (sSet 2 [2,3] (eOp d_8 (eCall ci_5 (aCons (eOp j_0 (eVar 3) (eC (.int 2))) aNil)) (eVar 2)))
  (sSet 3 [3] (eOp v_4 (eVar 3) (eC (.int 2)))))
def y_7:FS:=
  (sSeq (sSet 2 [] (eC (.str "")))
  (sSeq (sSet 3 [0] (eVar 0))
  (sSeq (g_1 [1] (iArgs n_7 (aCons (eVar 1) aNil)) (gV 4) q_0)
  (sRetV 2))))
def j_9:List D→R W:=bodyD 5 y_7
def ad_6:FS:=
  (sIf [2,4] (tNotF (eTruth (eFn 2 i_7 (aCons (eVar 4) (aCons (eVar 2) aNil)))))
   (v_8 "NoBits" "at" [3] (eVar 3))
   sNil)
def x_1:FE:=
  (eFn 2 j_9 (aCons (eVar 5) (aCons (eVar 1) aNil)))
def bi_2:FS:=
  (sSeq (sSet 2 [1] (eFn 1 j_8 (aCons (eVar 1) aNil)))
  (sSeq (g_1 [0] (s_3 (eVar 0)) (gV2 3 4) ad_6)
  (sRet [0,1] (eMeth "str" ar_1 (eC (.str "")) (aCons (c_1 1 (iOf (eVar 0)) (gC 5) (fun _=> .ok true) x_1) aNil)))))
def y_8:List D→R W:=bodyD 5 bi_2
def bd_9:FS:=
  (sRet [0] (h_7 ["Kept", "Marked", "PeeledAgain", "OrderedAgain", "KeptAgain", "MarkedAgain"] "how_many" (eVar 0)))
def m_2:List D→R W:=bodyD 1 bd_9
def bi_3:FS:=
  (sSeq (sSet 4 [1,2] (eFn 2 y_8 (aCons (d_2 "table" 0 [("Marked",e_6)] (eVar 1) aNil) (aCons (eVar 2) aNil))))
  (sRet [0,1,2,3,4] (eTup (aCons (eVar 0) (aCons (h_7 ["Table"] "kind" (h_7 ["Kept", "Marked", "PeeledAgain", "OrderedAgain", "KeptAgain", "MarkedAgain"] "own_table" (eVar 1))) (aCons (d_2 "salt" 0 [("Marked",f_0)] (eVar 1) aNil) (aCons (d_2 "many" 0 [("Marked",m_2)] (eVar 1) aNil) (aCons (eVar 2) (aCons (eVar 4) (aCons (eVar 3) aNil))))))))))
def v_3:List D→R W:=bodyD 5 bi_3
def al_3:FS:=
  (sSeq (sIf [0] (eTruth (eIsO [("Marked",false)] (eVar 0)))
   ah_5
   sNil)
  (sSeq (sIf [0] (eTruth (eIsO [("Marked",false)] (eVar 0)))
   ah_5
   sNil)
  (sSeq (sIf [0] (eTruth (eIsO [("Marked",false)] (eVar 0)))
   ah_5
   sNil)
  (sSeq (sIf [0] (eTruth (eIsO [("Marked",true)] (eVar 0)))
   (sRet [0] (eFn 4 v_3 (aCons (eC (.str "marked")) (aCons (eVar 0) (aCons (h_7 ["Kept", "Marked", "KeptAgain", "MarkedAgain"] "width" (eVar 0)) (aCons (eC (.str "")) aNil))))))
   sNil)
  (sRet [] (eC .non))))))
def l_0:List D→R W:=bodyD 1 al_3
def bo_6:FS:=
  (sSet 4 [4] (eOp g_0 (eC (.int 2)) (eVar 4)))
def ae_9:FE:=
  (eOp j_0 (eOp ixD (eVar 1) (eOp d_8 (eC (.int 94)) (eVar 15))) (eVar 4))
def ck_6:FE:=
  (d_2 "value" 1 [("Kept",d_9)] (eVar 9) (aCons (eVar 15) aNil))
def aw_2:FT:=
  (eTest (eOp dn_4 (d_2 "knows" 1 [("Marked",b_6)] (eVar 10) (aCons (eVar 15) aNil)) (eC (.bl true))))
def aw_3:FE:=
  (eOp j_0 (eOp d_8 (eVar 15) (eC (.int 1))) (eVar 4))
def al_4:FT:=
  (eTest (eOp neD (eVar 15) (eC (.str "another"))))
def ck_7:FE:=
  (d_2 "value" 1 [("Kept",d_9)] (eVar 9) (aCons (eVar 15) aNil))
def bo_7:FS:=
  (sSet 1 [0] (eFn 2 q_4 (aCons (eVar 0) (aCons (eC (.int 130)) aNil))))
def bo_8:FS:=
  (sSet 2 [1] (eFn 3 f_7 (aCons (eVar 1) (aCons (eC (.int 4)) (aCons (eOp d_8 (eC (.int 1)) (eOp j_0 (eOp ixD (eVar 1) (eC (.int 0))) (eC (.int 30)))) aNil)))))
def bo_9:FS:=
  (sSet 3 [1] (eOp d_8 (eC (.int 1)) (eOp j_0 (eOp ixD (eVar 1) (eC (.int 1))) (eC (.int 30)))))
def bp_0:FS:=
  (sSet 4 [] (eC (.int 1)))
def bp_1:FS:=
  (g_1 [3] (iArgs n_7 (aCons (eVar 3) aNil)) (gV 5) bo_6)
def bp_2:FS:=
  (sSet 6 [1] (eOp d_8 (eC (.int 2)) (eOp j_0 (eOp ixD (eVar 1) (eC (.int 2))) (eC (.int 2)))))
def bp_3:FS:=
  (sSet 7 [1] (eOp d_8 (eC (.int 1)) (eOp j_0 (eOp v_4 (eOp ixD (eVar 1) (eC (.int 2))) (eC (.int 2))) (eC (.int 30)))))
def bp_4:FS:=
  (sSet 8 [1,2,4] (c_1 1 (iArgs n_7 (aCons (eCall h_6 (aCons (eVar 2) aNil)) aNil)) (gC 15) (fun _=> .ok true) ae_9))
def al_5:FS:=
  (sSet 9 [2,3,6,7,8] (eFn 6 d_4 (aCons (eC (.int 0)) (aCons (eCall r_0 (aCons (eVar 2) aNil)) (aCons (eCall r_0 (aCons (eVar 8) aNil)) (aCons (eVar 3) (aCons (eVar 6) (aCons (eVar 7) aNil))))))))
def ad_7:FS:=
  (sSet 10 [2,3,6,7,8] (eFn 6 d_4 (aCons (eC (.int 1)) (aCons (eCall r_0 (aCons (eVar 2) aNil)) (aCons (eVar 8) (aCons (eVar 3) (aCons (eVar 6) (aCons (eVar 7) aNil))))))))
def al_6:FS:=
  (sIf [9,10] (tOrF (eTest (eOp (isND false) (eVar 9) (eC .non))) (eTest (eOp (isND false) (eVar 10) (eC .non))))
   (sRet [9,10] (eAnd (eOp (isND false) (eVar 9) (eC .non)) (eOp (isND false) (eVar 10) (eC .non))))
   sNil)
def az_5:FS:=
  (sIf [2,8,9,10] (tOrF (eTest (eOp neD (c_1 1 (iOf (eVar 2)) (gC 15) (fun _=> .ok true) ck_6) (eVar 8))) (eTest (eOp neD (c_1 1 (iOf (eVar 2)) (gC 15) aw_2 (eVar 15)) (eLst aNil))))
   (sRet [] (eC (.bl false)))
   sNil)
def al_7:FS:=
  (sSet 11 [1] (eOp g_0 (eOp v_4 (eOp ixD (eVar 1) (eC (.int 3))) (eC (.int 400))) (eC (.int 180000000000))))
def y_9:FS:=
  (sIf [1,2] (tAndF (eTest (eOp eqD (eOp j_0 (eOp ixD (eVar 1) (eC (.int 3))) (eC (.int 2))) (eC (.int 0)))) (eTruth (eIs "int" (eOp ixD (eVar 2) (eC (.int 0))))))
   (sSet 11 [2] (eCall minD (aCons (eOp ixD (eVar 2) (eC (.int 0))) (aCons (eOp subD (eOp powD (eC (.int 10)) (eC (.int 18))) (eC (.int 300))) aNil))))
   sNil)
def al_8:FS:=
  (sSet 12 [1,11] (eRng rng2 (aCons (eVar 11) (aCons (eOp d_8 (eOp d_8 (eVar 11) (eC (.int 1))) (eOp j_0 (eOp v_4 (eOp ixD (eVar 1) (eC (.int 3))) (eC (.int 2))) (eC (.int 200)))) aNil))))
def al_9:FS:=
  (sSet 13 [2,4,6,9,10,12] (eFn 6 q_7 (aCons (eVar 9) (aCons (eVar 10) (aCons (eVar 2) (aCons (eVar 12) (aCons (eVar 6) (aCons (eVar 4) aNil))))))))
def az_6:FS:=
  (sIf [2,10,11,12,13] (tOrF (eTest (eOp (isND false) (eVar 13) (eC .non))) (eTest (eOp neD (eFn 4 p_9 (aCons (eVar 10) (aCons (eCall r_0 (aCons (eVar 2) aNil)) (aCons (eVar 11) (aCons (eOp subD (eOp d_8 (eVar 11) (eCall h_6 (aCons (eVar 12) aNil))) (eC (.int 1))) aNil))))) (eVar 13))))
   (sRet [] (eC (.bl false)))
   sNil)
def am_0:FS:=
  (sExpr [2,3,4,6,7,8] (eFn 6 d_4 (aCons (eC (.int 0)) (aCons (c_1 1 (iRev (eVar 2)) (gC 15) (fun _=> .ok true) (eVar 15)) (aCons (c_1 1 (iOf (eVar 8)) (gC 15) (fun _=> .ok true) aw_3) (aCons (eVar 3) (aCons (eVar 6) (aCons (eVar 7) aNil))))))))
def am_1:FS:=
  (sExpr [2,3,6,7,8] (eFn 6 d_4 (aCons (eC (.int 1)) (aCons (eOp d_8 (c_1 1 (iOf (eSlice (eVar 2) (oSome (eC (.int 1))) oNone)) (gC 15) al_4 (eVar 15)) (eLst (aCons (eC (.str "another")) aNil))) (aCons (eVar 8) (aCons (eOp d_8 (eC (.int 1)) (eOp j_0 (eVar 3) (eC (.int 30)))) (aCons (eVar 6) (aCons (eVar 7) aNil))))))))
def az_7:FS:=
  (sIf [2,4,6,8,9,10,12,13] (tOrF (eTest (eOp neD (c_1 1 (iOf (eVar 2)) (gC 15) (fun _=> .ok true) ck_7) (eVar 8))) (eTest (eOp neD (eFn 6 q_7 (aCons (eVar 9) (aCons (eVar 10) (aCons (eVar 2) (aCons (eVar 12) (aCons (eVar 6) (aCons (eVar 4) aNil))))))) (eVar 13))))
   (sRet [] (eC (.bl false)))
   sNil)
def am_2:FS:=
  (sSet 14 [10] (eFn 1 i_2 (aCons (eFn 1 l_0 (aCons (eVar 10) aNil)) aNil)))
def am_3:FS:=
  (sRet [2,11,12,13,14] (eOp eqD (eFn 4 p_9 (aCons (eVar 14) (aCons (c_1 1 (iRev (eVar 2)) (gC 15) (fun _=> .ok true) (eVar 15)) (aCons (eVar 11) (aCons (eOp subD (eOp d_8 (eVar 11) (eCall h_6 (aCons (eVar 12) aNil))) (eC (.int 1))) aNil))))) (eVar 13)))
def dn_5:FS:=
  (sSeq bo_7
  (sSeq bo_8
  (sSeq bo_9
  (sSeq bp_0
  (sSeq bp_1
  (sSeq bp_2
  (sSeq bp_3
  (sSeq bp_4
  (sSeq al_5
  (sSeq ad_7
  (sSeq al_6
  (sSeq az_5
  (sSeq al_7
  (sSeq y_9
  (sSeq al_8
  (sSeq al_9
  (sSeq az_6
  (sSeq am_0
  (sSeq am_1
  (sSeq az_7
  (sSeq am_2
  am_3)))))))))))))))))))))
def da_3:List D→R W:=bodyD 15 dn_5
end My
namespace L3
open PySem L2
def okD:Nat→D→Bool
 |_, .non=>true
 |_, .bl _=>true
 |_, .int _=>true
 |_, .str x=>x.cps.all (· < 0x110000)
 |n + 1, .lst ds=>ds.all (okD n)
 |n + 1, .tup ds=>ds.all (okD n)
 |_,_=>false
theorem da_4:∀(n:Nat) (d:D),okD n d=true→(q_9 d).canLay0=true∧(q_9 d).depth≤n∧(q_9 d).eqv (q_9 d)=true:=by
 intro n
 induction n with
 |zero=>
  intro d h;cases d with
  |non=>exact⟨rfl,Nat.le_refl _,rfl⟩
  |bl b=>exact⟨rfl,Nat.le_refl _,by cases b <;> rfl⟩
  |int i=>exact⟨rfl,Nat.le_refl _,by show(i ==i)=true;simp⟩
  |str x=>exact⟨h,Nat.le_refl _,by show(x ==x)=true;simp⟩
  |_=>cases h
 |succ n ih=>
  have all:∀ds:List D,ds.all (okD n)=true→PyData.canLayAll0 (i_9 ds)=true∧PyData.depthAll (i_9 ds)≤n∧PyData.eqvAll (i_9 ds) (i_9 ds)=true:=by
   intro ds
   induction ds with
   |nil=>intro _;exact⟨rfl,Nat.zero_le _,rfl⟩
   |cons d ds ih2=>
    intro h;rw [List.all_cons,Bool.and_eq_true] at h;obtain⟨a1,a2,a3⟩:=ih d h.1;obtain⟨b1,b2,b3⟩:=ih2 h.2;refine⟨?_, ?_, ?_⟩
    ·show(PyData.canLay0 (q_9 d) && PyData.canLayAll0 (i_9 ds))=true;rw [a1,b1];rfl
    ·show max (PyData.depth (q_9 d)) (PyData.depthAll (i_9 ds))≤n;exact Nat.max_le.mpr ⟨a2,b2⟩
    ·show(PyData.eqv (q_9 d) (q_9 d) && PyData.eqvAll (i_9 ds) (i_9 ds))=true;rw [a3,b3];rfl
  intro d h;cases d with
  |non=>exact⟨rfl,Nat.zero_le _,rfl⟩
  |bl b=>exact⟨rfl,Nat.zero_le _,by cases b <;> rfl⟩
  |int i=>exact⟨rfl,Nat.zero_le _,by show(i ==i)=true;simp⟩
  |str x=>exact⟨h,Nat.zero_le _,by show(x ==x)=true;simp⟩
  |lst ds=>
   obtain⟨b1,b2,b3⟩:=all ds h;exact⟨b1,Nat.succ_le_succ b2,b3⟩
  |tup ds=>
   obtain⟨b1,b2,b3⟩:=all ds h;exact⟨b1,Nat.succ_le_succ b2,b3⟩
  |_=>cases h
theorem by_2{n:Nat}{d:D}(h:okD n d=true)(hn:n≤60):eqC d d=true∧eqvD d d=true:=by
 obtain⟨a1,a2,a3⟩:=da_4 n d h;refine⟨?_,a3⟩;unfold eqC;rw [a1,decide_eq_true (Nat.le_trans a2 hn)];rfl
theorem da_5{d:D}(n:Nat)(h:okD n d=true)(hn:n≤60:=by decide):eqD d d= .ok (.sh (.bl true)):=by
 obtain⟨h1,h2⟩:=by_2 h hn;unfold eqD
 split
 ·simp
 ·rw [if_pos h1,h2]
theorem by_3{d:D}(n:Nat)(h:okD n d=true)(hn:n≤60:=by decide):neD d d= .ok (.sh (.bl false)):=by
 obtain⟨h1,h2⟩:=by_2 h hn;unfold neD
 split
 ·simp
 ·rw [if_pos h1,h2];rfl
theorem dk_4(n:Nat)(i:Int):okD n (.int i)=true:=by cases n <;> rfl
theorem da_6(n:Nat){α:Type}(f:α→Int)(l:List α):(l.map fun a=>D.int (f a)).all (okD n)=true:=by
 rw [List.all_eq_true];intro d hd;obtain⟨a,_,rfl⟩:=List.mem_map.mp hd;exact dk_4 n _
theorem bi_4{α:Type}(f:α→Int):∀l:List α,bh_2 (l.map fun a=>D.int (f a))=some (l.map f)
 | []=>rfl
 |a::l=>by
  show(bh_2 (l.map fun a=>D.int (f a))).map (f a:: ·)=_;rw [bi_4 f l];rfl
theorem da_7{α:Type}(f:α→Int)(l:List α):sumD [.lst (l.map fun a=>D.int (f a))]= .ok (.sh (.int (l.map f).sum)):=by
 unfold sumD;simp only [bi_4]
theorem by_4{n i:Nat}(h:i < n):ixN n (i:Int)=some i:=by
 unfold ixN;rw [if_pos (by omega),if_pos (by omega)];simp
theorem am_4{α:Type}{xs:List α}{i:Nat}{x:α}(h:xs[i]? =some x):atI xs (i:Int)=some x:=by
 unfold atI;rw [by_4 (List.getElem?_eq_some_iff.mp h).1];exact h
end L3
namespace My
open PySem L2 L3
def mixZ(c k:Int):Int:=((c + 1) * (48271 + 118 * k) % 2147483629 / 977 * 16807 + (c + 1) * (48271 + 118 * k) % 2147483629 * (k * k + 7) + k) % 2147483587
theorem da_8(c k:Int)(h1: -2000≤k)(h2:k≤2000):v_2 [.int c, .int k]= .ok (.sh (.int (mixZ c k))):=by
 have hk: -18446744073709551616 < k * k + 7∧k * k + 7 < 18446744073709551616:=by
  have:k * k≤2000 * 2000:=by
   rcases Int.le_total 0 k with h|h
   ·exact Int.mul_le_mul h2 h2 h (by decide)
   ·have:(-k) * (-k)≤2000 * 2000:=Int.mul_le_mul (by omega) (by omega) (by omega) (by decide)
    rwa [Int.neg_mul_neg] at this
  have:0≤k * k:=by
   rcases Int.le_total 0 k with h|h
   ·exact Int.mul_nonneg h h
   ·have:=Int.mul_nonneg (a:= -k) (b:= -k) (by omega) (by omega)
    rwa [Int.neg_mul_neg] at this
  omega
 have m1:mulC 118 k=true:=i_6 (by decide) (by decide);have m2:mulC (c + 1) (48271 + 118 * k)=true:=ac_8 (by omega) (by omega);have m3:∀z:Int,mulC z 16807=true:=fun z=>ac_8 (by decide) (by decide);have m4:mulC k k=true:=i_6 (by omega) (by omega);have m5:∀z:Int,mulC z (k * k + 7)=true:=fun z=>ac_8 hk.1 hk.2
 simp_arith [v_2,bi_1,evs,e_0 m1,e_0 m2,e_0 (m3 _),e_0 m4,e_0 (m5 _),e_5,m_4 (show(0:Int) < 977 by decide) (by decide),f_3 (show(0:Int) < 2147483629 by decide),f_3 (show(0:Int) < 2147483587 by decide)]
 rfl
def wr:Nat→Int→List Nat→List Nat
 |0,_,zm=>zm
 |j + 1,r,zm=>wr j (r / 2) ((48 + (r % 2).toNat)::zm)
def rd(bs:List Nat)(a:Int):Int:=bs.foldl (fun a c=>2 * a + (if c=49 then 1 else 0)) a
def bit(c:Nat):Prop:=c=48∨c=49
theorem ai_7:∀(w:Nat) (n:Int) (zm:List Nat),(wr w n zm).length=w + zm.length
 |0,_,zm=>by simp [wr]
 |w + 1,n,zm=>by rw [wr,ai_7 w];simp;omega
theorem da_9:∀(w:Nat) (n:Int) (zm:List Nat),(∀c∈zm,bit c)→∀c∈wr w n zm,bit c
 |0,_,zm,h=>h
 |w + 1,n,zm,h=>da_9 w (n / 2) _ fun c hc=>by
  rcases List.mem_cons.mp hc with rfl|hc
  ·have:n % 2=0∨n % 2=1:=by omega
   rcases this with e|e <;> rw [e]
   ·exact .inl rfl
   ·exact .inr rfl
  ·exact h c hc
theorem du_0(a b:List Nat)(z:Int):rd (a ++ b) z=rd b (rd a z):=by unfold rd;rw [List.foldl_append]
theorem dn_6:∀(w:Nat) (n:Int) (zm:List Nat) (a:Int),rd (wr w n zm) a=rd zm (a * 2 ^ w + n % 2 ^ w)
 |0,n,zm,a=>by
  show rd zm a=rd zm (a * 1 + n % 1);rw [Int.mul_one,Int.emod_one,Int.add_zero]
 |w + 1,n,zm,a=>by
  rw [wr,dn_6 w];show rd zm (2 * (a * 2 ^ w + n / 2 % 2 ^ w) + (if 48 + (n % 2).toNat=49 then 1 else 0))=_;have e:(if 48 + (n % 2).toNat=49 then(1:Int) else 0)=n % 2:=by split <;> omega
  have p:n % 2 ^ (w + 1)=2 * (n / 2 % 2 ^ w) + n % 2:=by
   have pos:(0:Int) < 2 ^ w:=Int.pow_pos (by decide);have e1:(2:Int) ^ (w + 1)=2 * 2 ^ w:=by rw [Int.pow_succ];omega
   rw [e1];have h1:=Int.mul_ediv_add_emod n 2;have h2:=Int.mul_ediv_add_emod (n / 2) (2 ^ w);have h3:=Int.emod_nonneg (n / 2) (show(2:Int) ^ w≠0 by omega);have h4:=Int.emod_lt_of_pos (n / 2) pos;have key:n=(2 * (n / 2 % 2 ^ w) + n % 2) + (2 * 2 ^ w) * (n / 2 / 2 ^ w):=by
    have:(2 * 2 ^ w:Int) * (n / 2 / 2 ^ w)=2 * (2 ^ w * (n / 2 / 2 ^ w)):=by rw [Int.mul_assoc]
    omega
   have h5:(2 * (n / 2 % 2 ^ w) + n % 2) % (2 * 2 ^ w)=2 * (n / 2 % 2 ^ w) + n % 2:=Int.emod_eq_of_lt (by omega) (by omega)
   conv=>lhs;rw [key]
   rw [Int.add_mul_emod_self_left,h5]
  have q:a * 2 ^ (w + 1)=2 * (a * 2 ^ w):=by rw [Int.pow_succ,←Int.mul_assoc,Int.mul_comm]
  rw [e,p,q]
  congr 1
  omega
theorem du_1(w:Nat)(n:Int)(h0:0≤n)(h1:n < 2 ^ w):rd (wr w n []) 0=n:=by
 rw [dn_6,Int.zero_mul,Int.zero_add,Int.emod_eq_of_lt h0 h1];rfl
def mkS(l:List Nat):Str:=⟨l.toArray⟩
theorem n_4(l:List Nat):(mkS l).cps.toList=l:=by simp [mkS]
theorem x_2(l:List Nat):(mkS l).length=l.length:=by rw [av_7,n_4]
theorem ck_8(a b:List Nat):mkS a ++ mkS b=mkS (a ++ b):=cj_7 (by rw [dj_3,n_4,n_4,n_4])
def sgL:List Nat:= [97,98,99,100,101,102,103,104,105,106,107,108,109,110,111,112,113,114,115,116,117,118,119,120,121,122,48,49,50,51,52,53,54,55,56,57,45,95,32]
theorem dk_5:(Str.ofString "abcdefghijklmnopqrstuvwxyz0123456789-_ ").cps.toList=sgL:=by decide +kernel
def isKey(d:D):Prop:=(∃n:Int,d= .int n∧0≤n∧n≤999999999999999999)∨(∃l:List Nat,d= .str (mkS l)∧l.length≤11∧∀c∈l,c∈sgL)
theorem isKey.flat{d:D}(h:isKey d):flatD d=true:=by
 rcases h with⟨n,rfl,_⟩|⟨l,rfl,_⟩ <;> rfl
theorem dz_1(r:Int):∃c∈sgL,ixD (.str "abcdefghijklmnopqrstuvwxyz0123456789-_ ") (.int (r % 39))= .ok (.sh (.str (mkS [c]))):=by
 have h0:=Int.emod_nonneg r (show(39:Int)≠0 by decide);have h1:=Int.emod_lt_of_pos r (show(0:Int) < 39 by decide);have hl:(r % 39).toNat < sgL.length:=by show(r % 39).toNat < 39;omega
 refine⟨sgL[(r % 39).toNat],List.getElem_mem hl,dj_6 (by decide +kernel) ?_⟩;rw [dk_5];exact dt_7 h0 (List.getElem?_eq_getElem hl)
theorem ck_9{a b:D}(ha:isKey a)(hb:isKey b):eqF a b=true↔a=b:=by
 rcases ha with⟨n,rfl,_⟩|⟨l,rfl,_⟩ <;> rcases hb with⟨m,rfl,_⟩|⟨k,rfl,_⟩
 ·show(n ==m)=true↔_;rw [beq_iff_eq];exact⟨fun h=>by rw [h],fun h=>by injection h⟩
 ·show false=true↔_;exact⟨fun h=>(by cases h),fun h=>(by cases h)⟩
 ·show false=true↔_;exact⟨fun h=>(by cases h),fun h=>(by cases h)⟩
 ·show(mkS l ==mkS k)=true↔_;rw [beq_iff_eq];exact⟨fun h=>by rw [h],fun h=>by injection h⟩
theorem aw_4{d:D}{ks:List D}(hd:isKey d)(hk:∀k∈ks,isKey k):u_2 d ks=true↔d∈ks:=by
 unfold u_2;rw [List.any_eq_true];constructor
 ·rintro ⟨y,hy,h⟩
  rw [←(ck_9 (hk y hy) hd).mp h];exact hy
 ·intro h;exact⟨d,h,(ck_9 hd hd).mpr rfl⟩
theorem db_0{ks:List D}(hk:∀k∈ks,isKey k):ks.all flatD=true:=List.all_eq_true.mpr fun k h=>(hk k h).flat
theorem by_5{d:D}{ks:List D}(hd:isKey d)(hk:∀k∈ks,isKey k):inD true d (.lst ks)= .ok (.sh (.bl (!u_2 d ks))):=by
 have h:(flatD d && ks.all flatD)=true:=by rw [hd.flat,db_0 hk];rfl
 rcases hd with⟨n,rfl,_⟩|⟨l,rfl,_⟩
 ·exact if_pos h
 ·exact if_pos h
theorem dk_6{d:D}(h:isKey d):PyData.canLay0 (q_9 d)=true∧PyData.depth (q_9 d)=0:=by
 rcases h with⟨n,rfl,_⟩|⟨l,rfl,_,hc⟩
 ·exact⟨rfl,rfl⟩
 ·refine⟨?_,rfl⟩;show(mkS l).cps.all (· < 0x110000)=true;rw [←Array.all_toList,n_4,List.all_eq_true];intro c h;have:c∈sgL:=hc c h;have:∀c∈sgL,c < 0x110000:=by decide
  exact decide_eq_true (this c (hc c h))
theorem am_5:∀{ks:List D},(∀k∈ks,isKey k)→PyData.canLayAll0 (i_9 ks)=true∧PyData.depthAll (i_9 ks)=0
 | [],_=>⟨rfl,rfl⟩
 |k::ks,h=>by
  obtain⟨a1,a2⟩:=dk_6 (h k List.mem_cons_self);obtain⟨b1,b2⟩:=am_5 fun x hx=>h x (List.mem_cons_of_mem _ hx);refine⟨?_, ?_⟩
  ·show(PyData.canLay0 (q_9 k) && PyData.canLayAll0 (i_9 ks))=true;rw [a1,b1];rfl
  ·show max (PyData.depth (q_9 k)) (PyData.depthAll (i_9 ks))=0;rw [a2,b2];rfl
theorem by_6{ks js:List D}(hk:∀k∈ks,isKey k)(hj:∀k∈js,isKey k):eqC (.lst ks) (.lst js)=true:=by
 unfold eqC;rw [Bool.and_eq_true,Bool.and_eq_true];refine⟨⟨(am_5 hk).1,(am_5 hj).1⟩,decide_eq_true ?_⟩;show PyData.depthAll (i_9 ks) + 1≤60;rw [(am_5 hk).2];decide
theorem dk_7{a b:D}(ha:isKey a)(hb:isKey b):PyData.eqv (q_9 a) (q_9 b)=true↔a=b:=by
 rcases ha with⟨n,rfl,_⟩|⟨l,rfl,_⟩ <;> rcases hb with⟨m,rfl,_⟩|⟨k,rfl,_⟩
 ·show(n ==m)=true↔_;rw [beq_iff_eq];exact⟨fun h=>by rw [h],fun h=>by injection h⟩
 ·show false=true↔_;exact⟨fun h=>(by cases h),fun h=>(by cases h)⟩
 ·show false=true↔_;exact⟨fun h=>(by cases h),fun h=>(by cases h)⟩
 ·show(mkS l ==mkS k)=true↔_;rw [beq_iff_eq];exact⟨fun h=>by rw [h],fun h=>by injection h⟩
theorem by_7:∀{ks js:List D},(∀k∈ks,isKey k)→(∀k∈js,isKey k)→(PyData.eqvAll (i_9 ks) (i_9 js)=true↔ks=js)
 | [], [],_,_=>⟨fun _=>rfl,fun _=>rfl⟩
 | [],_::_,_,_=>⟨fun h=>(by cases h),fun h=>(by cases h)⟩
 |_::_, [],_,_=>⟨fun h=>(by cases h),fun h=>(by cases h)⟩
 |k::ks,j::js,hk,hj=>by
  show(PyData.eqv (q_9 k) (q_9 j) && PyData.eqvAll (i_9 ks) (i_9 js))=true↔_;rw [Bool.and_eq_true,dk_7 (hk k List.mem_cons_self) (hj j List.mem_cons_self),by_7 (fun x hx=>hk x (List.mem_cons_of_mem _ hx)) (fun x hx=>hj x (List.mem_cons_of_mem _ hx))];exact⟨fun⟨a,b⟩=>by rw [a,b],fun h=>by injection h with a b;exact⟨a,b⟩⟩
theorem cl_0(a b:List D):eqD (.lst a) (.lst b)=if eqC (.lst a) (.lst b)=true then .ok (.sh (.bl (eqvD (.lst a) (.lst b)))) else .no:=rfl
theorem dk_8(a b:List D):neD (.lst a) (.lst b)=if eqC (.lst a) (.lst b)=true then .ok (.sh (.bl (!eqvD (.lst a) (.lst b)))) else .no:=rfl
theorem db_1{ks js:List D}(hk:∀k∈ks,isKey k)(hj:∀k∈js,isKey k):∃b:Bool,(b=true↔ks=js)∧eqD (.lst ks) (.lst js)= .ok (.sh (.bl b))∧neD (.lst ks) (.lst js)= .ok (.sh (.bl (!b))):=by
 refine⟨eqvD (.lst ks) (.lst js),by_7 hk hj, ?_, ?_⟩
 ·rw [cl_0,if_pos (by_6 hk hj)]
 ·rw [dk_8,if_pos (by_6 hk hj)]
def sgI(c:Nat):Nat:=sgL.idxOf c
theorem db_2:∀c∈sgL,Builtin.Str.occurrences "abcdefghijklmnopqrstuvwxyz0123456789-_ " ⟨#[c]⟩ 0 (Str.length "abcdefghijklmnopqrstuvwxyz0123456789-_ ") 1= [sgI c]:=by decide +kernel
def ab_0(l:List Nat):Int:=l.foldl (fun a c=>40 * a + (sgI c:Int) + 1) 0
theorem as_7(l:List Nat)(k c:Nat)(h:l[k]? =some c):ab_0 (l.take (k + 1))=40 * ab_0 (l.take k) + (sgI c:Int) + 1:=by
 unfold ab_0;rw [List.take_add_one,h,List.foldl_append];rfl
def e_9:D→Int
 | .int n=>2 * n
 | .str x=>2 * ab_0 x.cps.toList + 1
 |_=>0
theorem db_3:∀c∈sgL,Txt.find "abcdefghijklmnopqrstuvwxyz0123456789-_ " ⟨#[c]⟩=((sgI c:Nat):Int):=by decide +kernel
theorem dk_9{c:Nat}(h:c∈sgL):bv_1 (.str "abcdefghijklmnopqrstuvwxyz0123456789-_ ") [.str ⟨#[c]⟩]= .ok (.sh (.int (sgI c:Int))):=by
 show R.ok (W.sh (D.int (Txt.find "abcdefghijklmnopqrstuvwxyz0123456789-_ " ⟨#[c]⟩)))=_;rw [db_3 c h]
theorem db_4{c:Nat}(h:c∈sgL):ao_8 (.str "abcdefghijklmnopqrstuvwxyz0123456789-_ ") [.str ⟨#[c]⟩]= .ok (.sh (.int (sgI c:Int))):=by
 show(match Builtin.Str.occurrences "abcdefghijklmnopqrstuvwxyz0123456789-_ " ⟨#[c]⟩ 0 (Str.length "abcdefghijklmnopqrstuvwxyz0123456789-_ ") 1 with
  |i::_=>R.ok (W.sh (D.int (i:Nat)))
  | []=>R.no)=_
 rw [db_2 c h]
theorem dz_2{c:Nat}(h:c∈sgL):inD false (.str ⟨#[c]⟩) (.str "abcdefghijklmnopqrstuvwxyz0123456789-_ ")= .ok (.sh (.bl true)):=by
 show R.ok (W.sh (D.bl (!(Builtin.Str.occurrences "abcdefghijklmnopqrstuvwxyz0123456789-_ " ⟨#[c]⟩ 0 (Str.length "abcdefghijklmnopqrstuvwxyz0123456789-_ ") 1).isEmpty)))=_;rw [db_2 c h];rfl
theorem t_9(l:List Nat):q_3 (mkS l)=l.map fun c=> .str ⟨#[c]⟩:=by unfold q_3;rw [n_4]
theorem db_5(l:List Nat)(hl:l.length≤11)(hc:∀c∈l,c∈sgL):ak_8 [.str (mkS l)]= .ok (.sh (.int (ab_0 l))):=by
 obtain⟨Δ',e,a2,rfl⟩:=f_6 (gV 2) ap_7 (fun k Δ=>∃a2,Δ= [.sh (.str (mkS l)), .sh (.int (ab_0 (l.take k))),a2]) (ds:=q_3 (mkS l)) (Δ:= [.sh (.str (mkS l)), .sh (.int 0), .no]) ⟨.no,rfl⟩ (fun k d Δ hk hI=>by
  obtain⟨a2,rfl⟩:=hI;rw [t_9,List.getElem?_map] at hk;cases q:l[k]? with
  |none=>rw [q] at hk;cases hk
  |some c=>
   rw [q] at hk;cases hk;refine⟨_,rfl, [.sh (.str (mkS l)), .sh (.int (ab_0 (l.take (k + 1)))), .sh (.str ⟨#[c]⟩)], .inl ?_,_,rfl⟩;rw [as_7 l k c q]
   simp_arith [ap_7,evs,e_0 (i_6 (show(-18446744073709551616:Int) < 40 by decide) (by decide)),beq_self_eq_true,dk_9 (hc c (List.mem_of_getElem? q)),e_5])
 rw [t_9,List.length_map,List.take_length] at e
 simp_arith [ak_8,ck_4,evs,g_1,t_9,e]
theorem bi_5{d:D}(h:isKey d):v_9 [d]= .ok (.sh (.bl true)):=by
 rcases h with⟨n,rfl,h0,h1⟩|⟨l,rfl,hl,hc⟩
 ·simp_arith [v_9,ay_9,evs,ah_4,cj_9,h0,h1]
 ·have hx:(mkS l).length≤16777216:=by rw [x_2];omega
  have ec:=ac_9 (fg:=gC 1) (f:=p_5) (δ:= [some (.str (mkS l)),none]) (fun _=> .bl true) (q_3 (mkS l)) (fun d hd=>by
   rw [t_9] at hd;obtain⟨c,hcl,rfl⟩:=List.mem_map.mp hd;exact⟨_, .sh (.bl true),rfl,by simp_arith [p_5,evs,dz_2 (hc c hcl)],rfl⟩)
  have ec':=g_4 (m:=1) (fi:=iOf (eVar 0)) (fg:=gC 1) (p:=fun _=> .ok true) (f:=p_5) (δ:= [some (.str (mkS l))]) (by simp_arith [evs]) (by rw [t_9,List.length_map];omega) ec;have ha:allD [.lst ((q_3 (mkS l)).map fun _=>D.bl true)]= .ok (.sh (.bl true)):=by
   have hb:∀l:List D,ao_7 (l.map fun _=>D.bl true)=some (l.map fun _=>true):=by
    intro l
    induction l with
    |nil=>rfl
    |cons a l ih=>show(ao_7 (l.map fun _=>D.bl true)).map (true:: ·)=_;rw [ih];rfl
   unfold allD;simp only [hb]
   congr 3
   rw [List.all_eq_true];intro b hb';obtain⟨_,_,rfl⟩:=List.mem_map.mp hb';rfl
  have fu:((mkS l).length:Int)≤11:=by rw [x_2];omega
  have et:o_5 [.str (mkS l)]= .ok (.sh (.bl true)):=by
   simp_arith [o_5,ag_1,evs,ak_7 hx,cj_9,fu,ec',ha]
  simp_arith [v_9,ay_9,evs,et]
theorem by_8{d:D}(h:isKey d):aa_2 [d]= .ok (.sh (.int (e_9 d))):=by
 have hk:=bi_5 h;have m2:=fun j:Int=>e_0 (i_6 (j:=j) (show(-18446744073709551616:Int) < 2 by decide) (by decide));rcases h with⟨n,rfl,h0,h1⟩|⟨l,rfl,hl,hc⟩
 ·simp_arith [aa_2,bo_3,evs,hk,m2,e_9]
 ·simp_arith [aa_2,bo_3,evs,hk,db_5 l hl hc,m2,e_5,e_9,n_4]
theorem bp_5{d:D}(h:isKey d):q_6 [d]= .ok (.sh (.int (e_9 d))):=by
 have m2:=fun j:Int=>e_0 (i_6 (j:=j) (show(-18446744073709551616:Int) < 2 by decide) (by decide));rcases h with⟨n,rfl,h0,h1⟩|⟨l,rfl,hl,hc⟩
 ·simp_arith [q_6,ad_3,evs,m2,e_9]
 ·obtain⟨Δ',e,a2,rfl⟩:=f_6 (gV 2) y_0 (fun k Δ=>∃a2,Δ= [.sh (.str (mkS l)), .sh (.int (ab_0 (l.take k))),a2]) (ds:=q_3 (mkS l)) (Δ:= [.sh (.str (mkS l)), .sh (.int 0), .no]) ⟨.no,rfl⟩ (fun k d Δ hk hI=>by
   obtain⟨a2,rfl⟩:=hI;rw [t_9,List.getElem?_map] at hk;cases q:l[k]? with
   |none=>rw [q] at hk;cases hk
   |some c=>
    rw [q] at hk;cases hk;refine⟨_,rfl, [.sh (.str (mkS l)), .sh (.int (ab_0 (l.take (k + 1)))), .sh (.str ⟨#[c]⟩)], .inl ?_,_,rfl⟩;rw [as_7 l k c q,Int.mul_comm 40]
    simp_arith [y_0,evs,e_0 (ac_8 (show(-18446744073709551616:Int) < 40 by decide) (by decide)),beq_self_eq_true,db_4 (hc c (List.mem_of_getElem? q)),e_5])
  rw [t_9,List.length_map,List.take_length] at e
  simp_arith [q_6,ad_3,evs,g_1,t_9,e,m2,e_5,e_9,n_4]
def n_5(n s z:Int):Int:=
 (((1 + (1103515245 * s + 12345) % (2305843009213693951 - 1)) * n + (69069 * s * s + 7 * s) % 2305843009213693951) % 2305843009213693951 + ((1 + (1103515245 * s + 12345) % (2305843009213693951 - 1)) * n + (69069 * s * s + 7 * s) % 2305843009213693951) % 2305843009213693951 / 2147483648) % z
theorem am_6(n s z:Int)(h1: -18446744073709551616 < s)(h2:s < 18446744073709551616)(hz:0 < z):ae_8 [.int n, .int s, .int z]= .ok (.sh (.int (n_5 n s z)))∧k_3 [.int n, .int s, .int z]= .ok (.sh (.int (n_5 n s z))):=by
 have n0:¬z=0:=by omega
 have f0:=Int.emod_nonneg (1103515245 * s + 12345) (show(2305843009213693951 - 1:Int)≠0 by decide);have f1:=Int.emod_lt_of_pos (1103515245 * s + 12345) (show(0:Int) < 2305843009213693951 - 1 by decide);have a1:=e_0 (i_6 (i:=1103515245) (j:=s) (by decide) (by decide));have a2:=e_0 (i_6 (i:=69069) (j:=s) (by decide) (by decide));have a3:=e_0 (ac_8 (i:=69069 * s) (j:=s) h1 h2);have a4:=e_0 (i_6 (i:=7) (j:=s) (by decide) (by decide));have a5:=e_0 (i_6 (i:=1 + (1103515245 * s + 12345) % (2305843009213693951 - 1)) (j:=n) (by omega) (by omega));have c1:=fun i:Int=>f_3 (i:=i) (show(0:Int) < 2305843009213693951 - 1 by decide);have c2:=fun i:Int=>f_3 (i:=i) (show(0:Int) < 2305843009213693951 by decide);have c3:=fun i:Int=>f_3 (i:=i) hz;have c4:=fun i:Int=>m_4 (i:=i) (show(0:Int) < 2147483648 by decide) (by decide);refine⟨?_, ?_⟩
 ·simp_arith [ae_8,ck_5,evs,f_2,n0,aa_1,e_5,a1,a2,a3,a4,c1,c2,a5,c4,c3]
  rfl
 ·simp_arith [k_3,as_2,evs,aa_1,e_5,a1,a2,a3,a4,c1,c2,a5,c4,c3]
  rfl
end My
namespace L3
open PySem L2
def outF:Fl→Bool
 | .ex _ _=>true
 | .rt _=>true
 | .no=>true
 |_=>false
theorem db_6(fg:FG)(g:FS)(I:Nat→SE→Prop){ds:List D}{Δ:SE}{n:Nat}{r:Fl}{d:D}(h0:I 0 Δ)(hd:ds[n]? =some d)
  (step:∀k d Δ,k < n→ds[k]? =some d→I k Δ→∃Δ1,fg d Δ= .ok Δ1∧∃Δ2,(g Δ1= .nx Δ2∨g Δ1= .ct Δ2)∧I (k + 1) Δ2)
  (last:∀Δ,I n Δ→∃Δ1,fg d Δ= .ok Δ1∧g Δ1=r) (hr:outF r=true):l_2 fg g ds Δ=r:=by
 have all:∀(m k:Nat) (Δ:SE),k + m=n→I k Δ→l_2 fg g (ds.drop k) Δ=r:=by
  intro m
  induction m with
  |zero=>
   intro k Δ e h;have:k=n:=by omega
   subst this;have hl:k < ds.length:=(List.getElem?_eq_some_iff.mp hd).1;obtain⟨x,d1,d2⟩:=ac_4 hl;rw [hd] at d1;cases d1;obtain⟨Δ1,e1,e2⟩:=last Δ h;rw [d2];show(match fg d Δ with
    | .ok Δ1=>(match g Δ1 with
     | .nx Δ2=>l_2 fg g (ds.drop (k + 1)) Δ2
     | .ct Δ2=>l_2 fg g (ds.drop (k + 1)) Δ2
     | .bk Δ2=> .nx Δ2
     |r=>r)
    | .ex _=> .no
    | .no=> .no)=_
   rw [e1];simp only [e2];cases r with
   |nx _=>cases hr
   |ct _=>cases hr
   |bk _=>cases hr
   |_=>rfl
  |succ m ih=>
   intro k Δ e h;have hl:n < ds.length:=(List.getElem?_eq_some_iff.mp hd).1;obtain⟨x,d1,d2⟩:=ac_4 (l:=ds) (i:=k) (by omega);obtain⟨Δ1,e1,Δ2,e2,h2⟩:=step k x Δ (by omega) d1 h;have e3:=ih (k + 1) Δ2 (by omega) h2;rw [d2];show(match fg x Δ with
    | .ok Δ1=>(match g Δ1 with
     | .nx Δ2=>l_2 fg g (ds.drop (k + 1)) Δ2
     | .ct Δ2=>l_2 fg g (ds.drop (k + 1)) Δ2
     | .bk Δ2=> .nx Δ2
     |r=>r)
    | .ex _=> .no
    | .no=> .no)=_
   rw [e1];rcases e2 with e2|e2
   ·simp only [e2];exact e3
   ·simp only [e2];exact e3
 have:=all n 0 Δ (by omega) h0
 rwa [List.drop_zero] at this
end L3
namespace My
open PySem L2 L3
def kOf:D→Key
 | .int i=> .inl i
 | .str x=> .inr x
 |_=> .inl 0
theorem az_8{d:D}(h:isKey d):keyD d=some (kOf d):=by
 rcases h with⟨n,rfl,_⟩|⟨l,rfl,_⟩ <;> rfl
theorem cl_1{a b:D}(ha:isKey a)(hb:isKey b)(e:kOf a=kOf b):a=b:=by
 rcases ha with⟨n,rfl,_⟩|⟨l,rfl,_⟩ <;> rcases hb with⟨m,rfl,_⟩|⟨k,rfl,_⟩
 ·injection e with e;rw [e]
 ·cases e
 ·cases e
 ·injection e with e;rw [e]
theorem cl_2{ks:List D}(hk:∀k∈ks,isKey k):h_8 [.lst ks]= .ok (.sh .non):=by
 obtain⟨Δ',e,a1,a2,rfl⟩:=f_6 (gV2 1 2) r_6 (fun k Δ=>∃a1 a2,Δ= [.sh (.lst ks),a1,a2]) (ds:=n_1 0 ks) (Δ:= [.sh (.lst ks), .no, .no]) ⟨_,_,rfl⟩ (fun k d Δ hd hI=>by
  obtain⟨a1,a2,rfl⟩:=hI;obtain⟨d',e1,rfl⟩:=n_8 hd;refine⟨_,rfl,_, .inl ?_, .sh (.int ((0 + k:Nat):Int)), .sh d',rfl⟩
  simp_arith [r_6,evs,bi_5 (hk d' (List.mem_of_getElem? e1))])
 simp_arith [h_8,ab_4,evs,g_1,s_3,ao_6,e]
def k_5(ks:List D):List (Key×D):=ks.map fun d=>(kOf d, .bl true)
theorem by_9{ks:List D}{d:D}(hk:∀k∈ks,isKey k)(hd:isKey d):hasA (k_5 ks) (kOf d)=true↔d∈ks:=by
 unfold hasA r_1 k_5;rw [Option.isSome_map,List.find?_isSome];constructor
 ·rintro ⟨p,hp,e⟩
  obtain⟨x,hx,rfl⟩:=List.mem_map.mp hp;have:kOf x=kOf d:=by simpa using e
  rw [←cl_1 (hk x hx) hd this];exact hx
 ·intro h;exact⟨(kOf d, .bl true),List.mem_map.mpr ⟨d,h,rfl⟩,by simp⟩
theorem bz_0{ks:List D}{d:D}(hk:∀k∈ks,isKey k)(hd:isKey d)(n:d∉ks):putA (k_5 ks) (kOf d) (.bl true)=k_5 (ks ++ [d]):=by
 unfold putA;have h:((k_5 ks).any fun kv=>decide (kv.1=kOf d))=false:=by
  cases q:(k_5 ks).any fun kv=>decide (kv.1=kOf d) with
  |false=>rfl
  |true=>
   exfalso;obtain⟨p,hp,e⟩:=List.any_eq_true.mp q;obtain⟨x,hx,rfl⟩:=List.mem_map.mp hp;have:kOf x=kOf d:=by simpa using e
   have:=cl_1 (hk x hx) hd this;subst this;exact n hx
 rw [h];unfold k_5;rw [List.map_append];rfl
theorem bz_1{ks:List D}{l:List D}{d:D}{k:Nat}(hl:∀x∈l,isKey x)(hd:isKey d)(n:d∉l)(hn:l.length < 16777216):
  l_4 [.sh (.lst ks), .ow (.dic (k_5 l)), .sh (.int (k:Int)), .sh d]= .nx [.sh (.lst ks), .ow (.dic (k_5 (l ++ [d]))), .sh (.int (k:Int)), .sh d]:=by
 have h:hasA (k_5 l) (kOf d)=false:=by
  cases q:hasA (k_5 l) (kOf d) with
  |false=>rfl
  |true=>exact absurd ((by_9 hl hd).mp q) n
 have hs:(k_5 l).length < 16777216:=by unfold k_5;rw [List.length_map];exact hn
 simp_arith [l_4,evs,inK,az_8 hd,h,ak_5,hs,bz_0 hl hd n]
theorem cq_3{ks:List D}(hk:∀k∈ks,isKey k)(nd:ks.Nodup)(hl:ks.length < 16777216):o_6 [.lst ks]= .ok (.sh .non):=by
 obtain⟨Δ',e,a2,a3,rfl⟩:=f_6 (gV2 2 3) l_4 (fun k Δ=>∃a2 a3,Δ= [.sh (.lst ks), .ow (.dic (k_5 (ks.take k))),a2,a3]) (ds:=n_1 0 ks) (Δ:= [.sh (.lst ks), .ow (.dic []), .no, .no]) ⟨_,_,rfl⟩ (fun k d Δ hd hI=>by
  obtain⟨a2,a3,rfl⟩:=hI;obtain⟨d',e1,rfl⟩:=n_8 hd;have hlt:k < ks.length:=(List.getElem?_eq_some_iff.mp e1).1;have nin:d'∉ks.take k:=fun hm=>by
   obtain⟨j,hj,e⟩:=List.getElem_of_mem hm;rw [List.length_take] at hj;rw [List.getElem_take] at e;have:=List.pairwise_iff_getElem.mp nd j k (by omega) hlt (by omega);rw [e] at this;rw [List.getElem?_eq_getElem hlt] at e1;injection e1 with e1
   exact this e1.symm
  refine⟨_,rfl,_, .inl (bz_1 (k:=0 + k) (fun x hx=>hk x (List.mem_of_mem_take hx)) (hk d' (List.mem_of_getElem? e1)) nin (by rw [List.length_take];omega)), .sh (.int ((0 + k:Nat):Int)), .sh d', ?_⟩;rw [List.take_add_one,e1];rfl)
 have e':l_2 (gV2 2 3) l_4 (n_1 0 ks) [.sh (.lst ks), .ow (.dic []), .no, .no]=_:=e
 simp_arith [o_6,ag_2,evs,ar_3,g_1,s_3,ao_6,e']
theorem bp_6{ks:List D}(hk:∀k∈ks,isKey k)(nd:ks.Nodup)(h1:1≤ks.length)(h2:ks.length≤200):h_0 [.lst ks]= .ok (.sh (.int (ks.length:Int))):=by
 have c1:¬(ks.length:Int)=0:=by omega
 have c2:¬(200:Int) < (ks.length:Int):=by omega
 simp_arith [h_0,ar_7,evs,m_7,f_2,c1,cy_5,c2,cl_2 hk,cq_3 hk nd (by omega)]
def d_0(n kind:Int):Int:=if kind < 3 then n + n / 8 + 1 else 41 * n / 100 + 2
theorem af_0(n kind:Int)(h0:0≤n)(h1:n≤1000)(hk:kind=2∨kind=3):h_9 [.int n, .int kind]= .ok (.sh (.int (d_0 n kind)))∧p_8 [.int n, .int kind]= .ok (.sh (.int (d_0 n kind)))∧0 < d_0 n kind∧d_0 n kind≤2000:=by
 have m41:mulC 41 n=true:=i_6 (by decide) (by decide);rcases hk with rfl|rfl
 ·refine⟨?_, ?_, ?_, ?_⟩
  ·simp_arith [h_9,ad_0,evs,ar_5,show(2:Int) < 3 by decide,m_4 (show(0:Int) < 8 by decide) (by decide),e_5,d_0]
  ·have hx:ixD (.lst [.int (n + n / 8 + 1), .int (41 * n / 100 + 2)]) (.int (2 - 2))= .ok (.sh (.int (n + n / 8 + 1))):=rfl
   simp_arith [p_8,ai_6,evs,m_4 (show(0:Int) < 8 by decide) (by decide),m_4 (show(0:Int) < 100 by decide) (by decide),e_5,aa_1,e_0 m41,hx,d_0,show(2:Int) < 3 by decide]
  ·unfold d_0;rw [if_pos (by decide)];omega
  ·unfold d_0;rw [if_pos (by decide)];omega
 ·refine⟨?_, ?_, ?_, ?_⟩
  ·simp_arith [h_9,ad_0,evs,ar_5,show¬(3:Int) < 3 by decide,m_4 (show(0:Int) < 100 by decide) (by decide),e_5,e_0 m41,d_0]
  ·have hx:ixD (.lst [.int (n + n / 8 + 1), .int (41 * n / 100 + 2)]) (.int (3 - 2))= .ok (.sh (.int (41 * n / 100 + 2))):=rfl
   simp_arith [p_8,ai_6,evs,m_4 (show(0:Int) < 8 by decide) (by decide),m_4 (show(0:Int) < 100 by decide) (by decide),e_5,aa_1,e_0 m41,hx,d_0,show¬(3:Int) < 3 by decide]
  ·unfold d_0;rw [if_neg (by decide)];omega
  ·unfold d_0;rw [if_neg (by decide)];omega
def s_1(d:D)(salt part:Int)(j:Int):Int:=j * part + n_5 (e_9 d) (4 * salt + j) part
def ab_1(d:D)(salt kind part:Int):List D:=(List.range kind.toNat).map fun(k:Nat)=>D.int (s_1 d salt part (0 + (k:Int)))
theorem bi_6{d:D}(h:isKey d)(salt kind part:Int)(s0:0≤salt)(s1:salt≤1000000000000)(hk:kind=2∨kind=3)(p0:0 < part)(p1:part≤2000):
  f_9 [d, .int salt, .int kind, .int part]= .ok (.sh (.tup (ab_1 d salt kind part)))∧i_0 [d, .int salt, .int kind, .int part]= .ok (.sh (.tup (ab_1 d salt kind part))):=by
 have hr:=r_3 (j:=kind) (by omega) (by omega);have hl:(b_5 0 kind.toNat).length≤16777216:=by rw [l_9];omega
 have bg:∀k:Nat,k < kind.toNat→mulC (0 + (k:Int)) part=true∧mulC 4 salt=true:=fun k hk=>⟨i_6 (by omega) (by omega),i_6 (by decide) (by decide)⟩;refine⟨?_, ?_⟩
 ·have ec:=bh_7 (fg:=gC 5) (p:=fun _=> .ok true) (f:=t_3) (δ:= [some d,some (.int salt),some (.int kind),some (.int part),some (.int (e_9 d)),none]) (F:=fun i=> .int (s_1 d salt part i)) kind.toNat 0 (fun k hk'=>by
   obtain⟨m1,m2⟩:=bg k hk';refine⟨[some d,some (.int salt),some (.int kind),some (.int part),some (.int (e_9 d)),some (.int (0 + (k:Int)))], .sh (.int (s_1 d salt part (0 + (k:Int)))),rfl,rfl, ?_,rfl⟩
   simp_arith [t_3,evs,e_0 m1,e_0 m2,e_5,(am_6 (e_9 d) (4 * salt + (0 + (k:Int))) part (by omega) (by omega) p0).1,s_1])
  have ec':=g_4 (m:=1) (fi:=iArgs n_7 (aCons (eVar 2) aNil)) (fg:=gC 5) (p:=fun _=> .ok true) (f:=t_3) (δ:= [some d,some (.int salt),some (.int kind),some (.int part),some (.int (e_9 d))]) (by simp_arith [evs,hr]) hl ec
  simp_arith [f_9,ar_8,evs,by_8 h,ec',bu_2]
  rfl
 ·have ec:=bh_7 (fg:=gC 5) (p:=fun _=> .ok true) (f:=r_9) (δ:= [some d,some (.int salt),some (.int kind),some (.int part),some (.int (e_9 d)),none]) (F:=fun i=> .int (s_1 d salt part i)) kind.toNat 0 (fun k hk'=>by
   obtain⟨m1,m2⟩:=bg k hk';refine⟨[some d,some (.int salt),some (.int kind),some (.int part),some (.int (e_9 d)),some (.int (0 + (k:Int)))], .sh (.int (s_1 d salt part (0 + (k:Int)))),rfl,rfl, ?_,rfl⟩
   simp_arith [r_9,evs,e_0 m1,e_0 m2,e_5,(am_6 (e_9 d) (4 * salt + (0 + (k:Int))) part (by omega) (by omega) p0).2,s_1])
  have ec':=g_4 (m:=1) (fi:=iArgs n_7 (aCons (eVar 2) aNil)) (fg:=gC 5) (p:=fun _=> .ok true) (f:=r_9) (δ:= [some d,some (.int salt),some (.int kind),some (.int part),some (.int (e_9 d))]) (by simp_arith [evs,hr]) hl ec
  simp_arith [i_0,al_0,evs,bp_5 h,ec',bu_2]
  rfl
def cf_1(ks:List D)(salt kind:Int):List D:=ks.map fun d=> .tup (ab_1 d salt kind (d_0 (ks.length:Int) kind))
theorem bz_2{ks:List D}(hk:∀k∈ks,isKey k)(nd:ks.Nodup)(h1:1≤ks.length)(h2:ks.length≤200)(salt kind:Int)(s0:0≤salt)(s1:salt≤1000000000000)(hkd:kind=2∨kind=3):
  s_8 [.lst ks, .int salt, .int kind]= .ok (.ow (.lst (cf_1 ks salt kind))):=by
 obtain⟨p1,p2,p3,p4⟩:=af_0 (ks.length:Int) kind (by omega) (by omega) hkd
 ·have ec:=g_4 (m:=1) (fi:=iOf (eVar 0)) (fg:=gC 4) (p:=fun _=> .ok true) (f:=aa_3) (δ:= [some (.lst ks),some (.int salt),some (.int kind),some (.int (d_0 (ks.length:Int) kind))]) (ds:=ks) (by simp_arith [evs]) (by omega)
   (ac_9 (fun d=> .tup (ab_1 d salt kind (d_0 (ks.length:Int) kind))) ks fun d hd=>⟨_, .sh (.tup (ab_1 d salt kind (d_0 (ks.length:Int) kind))),rfl,by
    simp_arith [aa_3,evs,(bi_6 (hk d hd) salt kind (d_0 (ks.length:Int) kind) s0 s1 hkd p3 p4).1],rfl⟩)
  simp_arith [s_8,az_0,evs,bp_6 hk nd h1 h2,p1,ec]
  rfl
def kp(p:Nat):Key:= .inl (p:Int)
theorem kp_inj{a b:Nat}:kp a=kp b↔a=b:=by
 unfold kp;constructor
 ·intro h;injection h with h;exact Int.ofNat.inj h
 ·intro h;rw [h]
def inner(ns:List Nat):List (Key×D):=ns.map fun n=>(kp n, .bl true)
abbrev St1:=List (Nat×List Nat)
def inT(ns:List Nat):Tn:=Tn.of (.dic (inner ns))
def stT(st:St1):List (Key×Tn):=st.map fun x=>(kp x.1,inT x.2)
def lkS:St1→Nat→Option (List Nat)
 | [],_=>none
 |(q,ns)::r,p=>if q=p then some ns else lkS r p
def rpS:St1→Nat→List Nat→St1
 | [],_,_=> []
 |(q,ns)::r,p,ms=>if q=p then(q,ms)::r else(q,ns)::rpS r p ms
theorem ad_8:∀(st:St1) (p:Nat),r_1 (stT st) (kp p)=(lkS st p).map inT
 | [],_=>rfl
 |(q,ns)::r,p=>by
  have ih:=ad_8 r p;unfold r_1 at ih⊢;show(((kp q,inT ns)::stT r).find? fun kv=>decide (kv.1=kp p)).map (·.2)=_;unfold lkS
  by_cases h:q=p
  ·rw [if_pos h,List.find?_cons_of_pos (by simpa [kp_inj] using h)];rfl
  ·rw [if_neg h,List.find?_cons_of_neg (by simpa [kp_inj] using h)];exact ih
theorem am_7(ms:List Nat):∀(st:St1) (p:Nat),repA (stT st) (kp p) (inT ms)=stT (rpS st p ms)
 | [],_=>rfl
 |(q,ns)::r,p=>by
  show repA ((kp q,inT ns)::stT r) (kp p) (inT ms)=_;unfold repA rpS
  by_cases h:q=p
  ·rw [if_pos h,if_pos (kp_inj.mpr h)];rfl
  ·rw [if_neg h,if_neg (fun z=>h (kp_inj.mp z)),am_7 ms r p];rfl
theorem dl_0(a b:St1):stT (a ++ b)=stT a ++ stT b:=by unfold stT;rw [List.map_append]
theorem dl_1(a:St1):(stT a).length=a.length:=by unfold stT;rw [List.length_map]
theorem dz_3(ns:List Nat):(inT ns).d= .dic (inner ns):=Tn.of_d _
theorem cf_2:∀st:St1,Tn.ks (stT st)=st.map fun x=>(kp x.1, .dic (inner x.2))
 | []=>rfl
 |(q,ns)::r=>by
  show(kp q,(inT ns).d)::Tn.ks (stT r)=_;rw [cf_2 r,dz_3];rfl
theorem bp_7:∀(st:St1) (p:Nat),r_1 (Tn.ks (stT st)) (kp p)=(lkS st p).map fun ns=> .dic (inner ns)
 | [],_=>rfl
 |(q,ns)::r,p=>by
  have ih:=bp_7 r p;rw [cf_2] at ih⊢;unfold r_1 at ih⊢;rw [List.map_cons];unfold lkS
  by_cases h:q=p
  ·rw [if_pos h,List.find?_cons_of_pos (by simpa [kp_inj] using h)];rfl
  ·rw [if_neg h,List.find?_cons_of_neg (by simpa [kp_inj] using h)];exact ih
theorem cl_3(st:St1)(p:Nat):hasA (Tn.ks (stT st)) (kp p)=(lkS st p).isSome:=by
 unfold hasA;rw [bp_7,Option.isSome_map]
theorem ap_9(ns:List Nat):(inner ns).length=ns.length:=by unfold inner;rw [List.length_map]
theorem az_9:∀(ns:List Nat) (n:Nat),hasA (inner ns) (kp n)=decide (n∈ns)
 | [],_=>by simp [inner,hasA,r_1]
 |m::ns,n=>by
  have ih:=az_9 ns n;unfold hasA r_1 at ih⊢;show((((kp m,D.bl true)::inner ns).find? fun kv=>decide (kv.1=kp n)).map (·.2)).isSome=_
  by_cases h:m=n
  ·rw [List.find?_cons_of_pos (by simpa [kp_inj] using h)];simp [h]
  ·rw [List.find?_cons_of_neg (by simpa [kp_inj] using h),ih];simp [Ne.symm h]
theorem cq_4(ns:List Nat)(n:Nat):((inner ns).any fun kv=>decide (kv.1=kp n))=decide (n∈ns):=by
 induction ns with
 |nil=>rfl
 |cons m ns ih=>
  show(decide (kp m=kp n) || (inner ns).any fun kv=>decide (kv.1=kp n))=_;rw [ih]
  by_cases h:m=n
  ·simp [h]
  ·simp [h,kp_inj,Ne.symm h]
theorem bi_7(ns:List Nat)(n:Nat):putA (inner ns) (kp n) (.bl true)=inner (if n∈ns then ns else ns ++ [n]):=by
 unfold putA;rw [cq_4]
 by_cases h:n∈ns
 ·rw [if_pos (decide_eq_true h),if_pos h];unfold inner;rw [List.map_map];apply List.map_congr_left;intro m _;show(if kp m=kp n then(kp m,D.bl true) else(kp m,D.bl true))=_
  split <;> rfl
 ·rw [if_neg (by simpa using h),if_neg h];unfold inner;rw [List.map_append];rfl
theorem cf_3(ns:List Nat)(n:Nat):ac_6 (inner ns) (kp n)=inner (ns.filter fun m=>decide (m≠n)):=by
 unfold ac_6 inner;rw [List.filter_map]
 congr 1
 apply List.filter_congr;intro m _;show decide (kp m≠kp n)=_
 by_cases h:m=n
 ·simp [h]
 ·simp [h,kp_inj]
theorem cl_4:∀(st:St1) (p q:Nat) (ms:List Nat),lkS (rpS st p ms) q=if q=p then(lkS st p).map (fun _=>ms) else lkS st q
 | [],p,q,ms=>by simp [rpS,lkS]
 |(r,ns)::st,p,q,ms=>by
  unfold rpS
  by_cases h:r=p
  ·rw [if_pos h];unfold lkS
   by_cases h2:q=p
   ·rw [if_pos (by omega),if_pos h2,if_pos h];rfl
   ·rw [if_neg (by omega),if_neg h2,if_neg (by omega)]
  ·rw [if_neg h];unfold lkS
   by_cases h2:r=q
   ·rw [if_pos h2,if_neg (by omega),if_pos h2]
   ·rw [if_neg h2,cl_4 st p q ms,if_neg h,if_neg h2]
theorem bp_8:∀(st:St1) (p:Nat) (ms:List Nat),(rpS st p ms).map (·.1)=st.map (·.1)
 | [],_,_=>rfl
 |(r,ns)::st,p,ms=>by
  unfold rpS
  split
  ·rfl
  ·rw [List.map_cons,List.map_cons,bp_8 st p ms]
theorem bp_9:∀(a:St1) (p q:Nat) (ms:List Nat),lkS (a ++ [(p,ms)]) q=match lkS a q with|some ns=>some ns|none=>if p=q then some ms else none
 | [],p,q,ms=>rfl
 |(r,ns)::a,p,q,ms=>by
  show lkS ((r,ns)::(a ++ [(p,ms)])) q=_;unfold lkS
  by_cases h:r=q
  ·rw [if_pos h,if_pos h]
  ·rw [if_neg h,if_neg h,bp_9 a p q ms]
theorem db_7:∀(a:St1) (p:Nat) (ms ls:List Nat),lkS a p=none→rpS (a ++ [(p,ms)]) p ls=a ++ [(p,ls)]
 | [],p,ms,ls,_=>by show rpS [(p,ms)] p ls=_;unfold rpS;rw [if_pos rfl];rfl
 |(r,ns)::a,p,ms,ls,h=>by
  unfold lkS at h
  split at h
  ·cases h
  ·rename_i hn;show rpS ((r,ns)::(a ++ [(p,ms)])) p ls=_;unfold rpS;rw [if_neg hn,db_7 a p ms ls h];rfl
theorem lk_mem:∀{st:St1} {p:Nat},p∈st.map (·.1)↔(lkS st p).isSome=true
 | [],p=>by simp [lkS]
 |(r,ns)::st,p=>by
  unfold lkS
  by_cases h:r=p
  ·simp [h]
  ·rw [if_neg h,List.map_cons,List.mem_cons,lk_mem (st:=st)];constructor
   ·rintro (z|z)
    ·exact absurd z.symm h
    ·exact z
   ·exact fun z=> .inr z
structure Rep(st:St1)(R:Nat→Nat→Prop):Prop where
 at_:∀p ns,lkS st p=some ns→ns.Nodup∧∀n,n∈ns↔R n p
 all:∀n p,R n p→(lkS st p).isSome=true
def addS(st:St1)(p n:Nat):St1:=match lkS st p with
 |some ns=>rpS st p (if n∈ns then ns else ns ++ [n])
 |none=>st ++ [(p, [n])]
theorem Rep.add{st:St1}{R:Nat→Nat→Prop}(h:Rep st R)(p n:Nat):Rep (addS st p n) (fun n' p'=>R n' p'∨(n'=n∧p'=p)):=by
 unfold addS;cases e:lkS st p with
 |some ns=>
  obtain⟨h1,h2⟩:=h.at_ p ns e;refine⟨fun q ms eq=> ?_,fun n' p' z=> ?_⟩
  ·simp only [cl_4,e,Option.map_some] at eq
   by_cases hq:q=p
   ·rw [if_pos hq] at eq;cases eq;subst hq
    by_cases hn:n∈ns
    ·rw [if_pos hn];refine⟨h1,fun m=>⟨fun z=> .inl ((h2 m).mp z),fun z=> ?_⟩⟩;rcases z with z|⟨rfl,_⟩
     ·exact(h2 m).mpr z
     ·exact hn
    ·rw [if_neg hn];refine⟨List.nodup_append.mpr ⟨h1,by simp,fun a ha b hb=> ?_⟩,fun m=> ?_⟩
     ·have:b=n:=by simpa using hb
      rintro rfl
      exact hn (this▸ha)
     ·rw [List.mem_append,h2 m,List.mem_singleton];constructor
      ·rintro (z|z)
       ·exact .inl z
       ·exact .inr ⟨z,rfl⟩
      ·rintro (z|⟨z,_⟩)
       ·exact .inl z
       ·exact .inr z
   ·rw [if_neg hq] at eq;obtain⟨k1,k2⟩:=h.at_ q ms eq;refine⟨k1,fun m=>⟨fun z=> .inl ((k2 m).mp z),fun z=> ?_⟩⟩;rcases z with z|⟨_,z⟩
    ·exact(k2 m).mpr z
    ·exact absurd z hq
  ·simp only [cl_4,e,Option.map_some]
   by_cases hq:p'=p
   ·rw [if_pos hq];rfl
   ·rw [if_neg hq];rcases z with z|⟨_,z⟩
    ·exact h.all n' p' z
    ·exact absurd z hq
 |none=>
  refine⟨fun q ms eq=> ?_,fun n' p' z=> ?_⟩
  ·simp only [bp_9] at eq;cases e2:lkS st q with
   |some ns=>
    rw [e2] at eq;cases eq;obtain⟨k1,k2⟩:=h.at_ q _ e2;refine⟨k1,fun m=>⟨fun z=> .inl ((k2 m).mp z),fun z=> ?_⟩⟩;rcases z with z|⟨_,z⟩
    ·exact(k2 m).mpr z
    ·subst z;rw [e] at e2;cases e2
   |none=>
    rw [e2] at eq
    by_cases hq:p=q
    ·simp only [hq,if_true] at eq;cases eq;subst hq;refine⟨by simp,fun m=> ?_⟩;rw [List.mem_singleton];constructor
     ·exact fun z=> .inr ⟨z,rfl⟩
     ·rintro (z|⟨z,_⟩)
      ·have:=h.all m p z;rw [e] at this;cases this
      ·exact z
    ·simp only [hq,if_false] at eq;cases eq
  ·simp only [bp_9];rcases z with z|⟨_,z⟩
   ·have:=h.all n' p' z;cases e2:lkS st p' with
    |some ns=>rfl
    |none=>rw [e2] at this;cases this
   ·subst z;rw [e];simp
theorem dl_2(st:St1)(p n:Nat):(addS st p n).length≤st.length + 1:=by
 unfold addS
 split
 ·have:=congrArg List.length (bp_8 st p (if n∈(by assumption:List Nat) then(by assumption:List Nat) else(by assumption:List Nat) ++ [n]));rw [List.length_map,List.length_map] at this;omega
 ·simp
def o_2(st:St1)(n:Nat)(ps:List Nat):St1:=ps.foldl (fun st p=>rpS st p (((lkS st p).getD []).filter fun m=>decide (m≠n))) st
theorem af_1(n:Nat):∀(ps:List Nat) (st:St1),(o_2 st n ps).map (·.1)=st.map (·.1)
 | [],_=>rfl
 |p::ps,st=>by
  show(o_2 (rpS st p _) n ps).map (·.1)=_;rw [af_1 n ps,bp_8]
theorem aw_5(n:Nat):∀(ps:List Nat) (st:St1) (q:Nat),lkS (o_2 st n ps) q=if q∈ps then(lkS st q).map (fun ns=>ns.filter fun m=>decide (m≠n)) else lkS st q
 | [],st,q=>by simp [o_2]
 |p::ps,st,q=>by
  show lkS (o_2 (rpS st p _) n ps) q=_;rw [aw_5 n ps,cl_4]
  by_cases h:q=p
  ·subst h;rw [if_pos rfl,if_pos (List.mem_cons_self ..)];cases e:lkS st q with
   |none=>simp
   |some ns=>
    simp only [Option.map_some,Option.getD_some]
    split
    ·rw [List.filter_filter];simp
    ·rfl
  ·rw [if_neg h]
   by_cases h2:q∈ps
   ·rw [if_pos h2,if_pos (List.mem_cons_of_mem _ h2)]
   ·rw [if_neg h2,if_neg (by simp [h,h2])]
theorem Rep.away{st:St1}{R:Nat→Nat→Prop}(h:Rep st R)(n:Nat)(ps:List Nat)(hp:∀p,R n p→p∈ps):Rep (o_2 st n ps) (fun n' p'=>R n' p'∧n'≠n):=by
 refine⟨fun q ms e=> ?_,fun n' p' ⟨z,_⟩=> ?_⟩
 ·rw [aw_5] at e
  by_cases hq:q∈ps
  ·rw [if_pos hq] at e;obtain⟨ns,e1,rfl⟩:=Option.map_eq_some_iff.mp e;obtain⟨k1,k2⟩:=h.at_ q ns e1;refine⟨k1.filter _,fun m=> ?_⟩;rw [List.mem_filter,k2 m];simp
  ·rw [if_neg hq] at e;obtain⟨k1,k2⟩:=h.at_ q ms e;refine⟨k1,fun m=>⟨fun z=>⟨(k2 m).mp z, ?_⟩,fun z=>(k2 m).mpr z.1⟩⟩
   rintro rfl
   exact hq (hp q ((k2 m).mp z))
 ·rw [aw_5];have:=h.all n' p' z
  split
  ·rw [Option.isSome_map];exact this
  ·exact this
def zi(ps:List Nat):List D:=ps.map fun p=>D.int ((p:Nat):Int)
def eT(ps:List Nat):D:= .tup (zi ps)
def eL(E:List (List Nat)):List D:=E.map eT
theorem w_3(l:List Nat):(zi l).length=l.length:=by unfold zi;rw [List.length_map]
theorem db_8{l:List Nat}{i:Nat}{d:D}(h:(zi l)[i]? =some d):∃p,l[i]? =some p∧d= .int (p:Int):=by
 unfold zi at h;rw [List.getElem?_map] at h;obtain⟨p,e1,e2⟩:=Option.map_eq_some_iff.mp h;exact⟨p,e1,e2.symm⟩
theorem du_2{E:List (List Nat)}{i:Nat}{d:D}(h:(eL E)[i]? =some d):∃ps,E[i]? =some ps∧d=eT ps:=by
 unfold eL at h;rw [List.getElem?_map] at h;obtain⟨p,e1,e2⟩:=Option.map_eq_some_iff.mp h;exact⟨p,e1,e2.symm⟩
theorem dn_7{E:List (List Nat)}{i:Nat}{ps:List Nat}(h:E[i]? =some ps):(eL E)[i]? =some (eT ps):=by
 unfold eL;rw [List.getElem?_map,h];rfl
def stSl(st:St1)(a:Sl):Prop:=a= .tr (.dic (stT st))∨(st= []∧a= .ow (.dic []))
theorem stSl.any{st:St1}{a:Sl}(h:stSl st a):Sl.any a=some (.dic (Tn.ks (stT st))):=by
 rcases h with rfl|⟨rfl,rfl⟩ <;> rfl
theorem stSl.tree{st:St1}{a:Sl}(h:stSl st a):Sl.tree a=some (.dic (stT st),false):=by
 rcases h with rfl|⟨rfl,rfl⟩ <;> rfl
theorem cq_5{st:St1}{a1:Sl}(h:stSl st a1)(a0:Sl)(n p:Nat)(a3:Sl)(hl:st.length < 1000)(hi:∀q ns,lkS st q=some ns→ns.length < 1000):
  l_6 [a0,a1, .sh (.int (n:Int)),a3, .sh (.int (p:Int))]= .nx [a0, .tr (.dic (stT (addS st p n))), .sh (.int (n:Int)),a3, .sh (.int (p:Int))]:=by
 have hk:∀k:Nat,keyD (.int (k:Int))=some (kp k):=fun _=>rfl;unfold addS;cases e:lkS st p with
 |some ns=>
  have e1:inK true (.int (p:Int)) (.dic (Tn.ks (stT st)))= .ok (.sh (.bl false)):=by
   simp only [inK,hk,cl_3,e];rfl
  have e2:r_1 (stT st) (kp p)=some (.dic ((inner ns).map fun p=>(p.1,Tn.sh p.2))):=by rw [ad_8,e];rfl
  have e3:=cd_7 (inner ns);have e4:(inner ns).length < 16777216:=by rw [ap_9];have:=hi p ns e;omega
  have e5:repA (stT st) (kp p) (Tn.of (.dic (inner (if n∈ns then ns else ns ++ [n]))))=stT (rpS st p (if n∈ns then ns else ns ++ [n])):=am_7 _ st p
  simp_arith [l_6,evs,h.any,e1,bh_4,Option.bind_some,h.tree,hk,e2,e3,e4,bi_7,e5,Sl.mk]
 |none=>
  have e1:inK true (.int (p:Int)) (.dic (Tn.ks (stT st)))= .ok (.sh (.bl true)):=by
   simp only [inK,hk,cl_3,e];rfl
  have e0:(r_1 (stT st) (kp p)).isSome=false:=by rw [ad_8,e];rfl
  have el:(stT st).length < 16777216:=by rw [dl_1];omega
  have ea:stT st ++ [(kp p,Tn.dic [])]=stT (st ++ [(p, [])]):=by rw [dl_0];rfl
  have e2:r_1 (stT (st ++ [(p, [])])) (kp p)=some (.dic []):=by
   rw [ad_8,bp_9,e];simp only [if_true];rfl
  have e5:repA (stT (st ++ [(p, [])])) (kp p) (Tn.of (.dic (inner [n])))=stT (st ++ [(p, [n])]):=by
   have:=am_7 [n] (st ++ [(p, [])]) p;rw [db_7 st p [] [n] e] at this;exact this
  have e6:unS []=some []:=rfl;have e7:putA ([]:List (Key×D)) (kp n) (.bl true)=inner [n]:=rfl;have e8:(0:Nat) < 16777216:=by decide
  have t1:bh_5 1 (eVar 4) [a0,a1, .sh (.int (n:Int)),a3, .sh (.int (p:Int))]= .nx [a0, .tr (.dic (stT (st ++ [(p, [])]))), .sh (.int (n:Int)),a3, .sh (.int (p:Int))]:=by
   simp_arith [bh_5,evs,Option.bind_some,h.tree,hk,e0,el,ea,Sl.mk]
  have t2:bh_4 1 (eVar 4) (eVar 2) (eC (.bl true)) [a0, .tr (.dic (stT (st ++ [(p, [])]))), .sh (.int (n:Int)),a3, .sh (.int (p:Int))]= .nx [a0, .tr (.dic (stT (st ++ [(p, [n])]))), .sh (.int (n:Int)),a3, .sh (.int (p:Int))]:=by
   simp_arith [bh_4,evs,Option.bind_some,Sl.tree,hk,e2,e6,e7,e8,e5,Sl.mk]
  have t0:sIf [1,4] (eTest (eOp (inK true) (eVar 4) (eVar 1))) (bh_5 1 (eVar 4)) sNil [a0,a1, .sh (.int (n:Int)),a3, .sh (.int (p:Int))]= .nx [a0, .tr (.dic (stT (st ++ [(p, [])]))), .sh (.int (n:Int)),a3, .sh (.int (p:Int))]:=by
   rw [←t1];simp only [sIf,vall,List.map_cons,List.map_nil,ay_6,h.any,eTest,eOp,eVar,List.getElem?_cons_succ,List.getElem?_cons_zero,R.bind_ok,W.d_sh,e1,boolD,if_true]
  unfold l_6;rw [a_9 t0,t2]
theorem few{l:List Nat}{n:Nat}(h:l.Nodup)(hb:∀x∈l,x < n):l.length≤n:=by
 have:=List.Nodup.length_le_of_subset (l₂:=List.range n) h fun x hx=>List.mem_range.mpr (hb x hx)
 rwa [List.length_range] at this
def tot(E:List (List Nat)):Nat:=(E.map List.length).sum
theorem db_9{E:List (List Nat)}{k:Nat}{ps:List Nat}(h:E[k]? =some ps):tot (E.take (k + 1))=tot (E.take k) + ps.length:=by
 unfold tot;rw [List.take_add_one,h,List.map_append,List.sum_append];simp
theorem as_8:∀(l:List Nat) (k:Nat),(l.take k).sum≤l.sum
 | [],k=>by simp
 |a::l,0=>by simp
 |a::l,k + 1=>by
  have:=as_8 l k;simp only [List.take_succ_cons,List.sum_cons];omega
theorem du_3(E:List (List Nat))(k:Nat):tot (E.take k)≤tot E:=by
 unfold tot;rw [List.map_take];exact as_8 _ k
def RE(E:List (List Nat))(n p:Nat):Prop:=∃e,E[n]? =some e∧p∈e
theorem Rep.imp{st:St1}{R R':Nat→Nat→Prop}(h:Rep st R)(i:∀n p,R n p↔R' n p):Rep st R':=
 ⟨fun p ns e=>⟨(h.at_ p ns e).1,fun n=>((h.at_ p ns e).2 n).trans (i n p)⟩,fun n p z=>h.all n p ((i n p).mpr z)⟩
theorem Rep.small{st:St1}{R:Nat→Nat→Prop}(h:Rep st R){N:Nat}(hb:∀n p,R n p→n < N){q:Nat}{ns:List Nat}(e:lkS st q=some ns):ns.length≤N:=by
 obtain⟨h1,h2⟩:=h.at_ q ns e;exact few h1 fun x hx=>hb x q ((h2 x).mp hx)
theorem cf_5{st:St1}{a1:Sl}(h:stSl st a1)(a0:Sl)(n:Nat)(ps:List Nat)(a4:Sl){R:Nat→Nat→Prop}(hR:Rep st R){N:Nat}(hb:∀m p,R m p→m < N)(hn:n < N)(hN:N≤900)(hl:st.length + ps.length≤900):
  ∃st' a1' a4',Rep st' (fun m p=>R m p∨(m=n∧p∈ps))∧stSl st' a1'∧st'.length≤st.length + ps.length∧l_7 [a0,a1, .sh (.int (n:Int)), .sh (eT ps),a4]= .nx [a0,a1', .sh (.int (n:Int)), .sh (eT ps),a4']:=by
 obtain⟨Δ',e,st',a1',a4',r',s',l',rfl⟩:=f_6 (gV 4) l_6 (fun k Δ=>∃st' a1' a4',Rep st' (fun m p=>R m p∨(m=n∧p∈ps.take k))∧stSl st' a1'∧st'.length≤st.length + k∧Δ= [a0,a1', .sh (.int (n:Int)), .sh (eT ps),a4']) (ds:=zi ps) (Δ:= [a0,a1, .sh (.int (n:Int)), .sh (eT ps),a4])
  ⟨st,a1,a4,hR.imp fun m p=>by simp,h,by omega,rfl⟩ (fun k d Δ hd hI=>by
   obtain⟨st',a1',a4',r',s',l',rfl⟩:=hI;obtain⟨p,hp,rfl⟩:=db_8 hd;have hk:k < ps.length:=(List.getElem?_eq_some_iff.mp hp).1;have bd:∀m q,(R m q∨(m=n∧q∈ps.take k))→m < N:=fun m q z=>by
    rcases z with z|⟨z,_⟩
    ·exact hb m q z
    ·omega
   refine⟨_,rfl,_, .inl (cq_5 s' a0 n p (.sh (eT ps)) (by omega) fun q ns e=> ?_),addS st' p n,_,_,(r'.add p n).imp fun m q=> ?_, .inl rfl, ?_,rfl⟩
   ·have:=r'.small bd e;omega
   ·rw [List.take_add_one,hp];simp only [Option.toList_some,List.mem_append,List.mem_singleton];constructor
    ·rintro ((z|⟨z1,z2⟩)|⟨z1,z2⟩)
     ·exact .inl z
     ·exact .inr ⟨z1, .inl z2⟩
     ·exact .inr ⟨z1, .inr z2⟩
    ·rintro (z|⟨z1,z2|z2⟩)
     ·exact .inl (.inl z)
     ·exact .inl (.inr ⟨z1,z2⟩)
     ·exact .inr ⟨z1,z2⟩
   ·have:=dl_2 st' p n;omega)
 rw [w_3,List.take_length] at r';rw [w_3] at l';refine⟨st',a1',a4',r',s',l', ?_⟩;have hi:∀δ:List (Option D),iOf (eVar 3) (some (D.non)::none::none::some (eT ps)::δ)= .ok (zi ps):=fun _=>rfl;simp only [l_7,g_1];have e1:iOf (eVar 3) (vsh [a0,a1, .sh (.int (n:Int)), .sh (eT ps),a4])= .ok (zi ps):=rfl;rw [e1];exact e
theorem cq_6(E:List (List Nat))(hE:E.length≤900)(hT:tot E≤900):∃st a1,Rep st (RE E)∧stSl st a1∧st.length≤tot E∧∃w,o_7 [.lst (eL E)]= .ok w∧((a1= .tr (.dic (stT st))∧w= .tr (.dic (stT st)))∨(st= []∧a1= .ow (.dic [])∧w= .ow (.dic []))):=by
 obtain⟨Δ',e,st,a1,a2,a3,a4,r,s,l,rfl⟩:=f_6 (gV2 2 3) l_7 (fun k Δ=>∃st a1 a2 a3 a4,Rep st (fun n p=>RE E n p∧n < k)∧stSl st a1∧st.length≤tot (E.take k)∧Δ= [.sh (.lst (eL E)),a1,a2,a3,a4]) (ds:=n_1 0 (eL E)) (Δ:= [.sh (.lst (eL E)), .ow (.dic []), .no, .no, .no])
  ⟨[],_,_,_,_,⟨fun p ns e=>(by cases e),fun n p z=>(by omega)⟩, .inr ⟨rfl,rfl⟩,Nat.zero_le _,rfl⟩ (fun k d Δ hd hI=>by
   obtain⟨st,a1,a2,a3,a4,r,s,l,rfl⟩:=hI;obtain⟨d',e1,rfl⟩:=n_8 hd;obtain⟨ps,e2,rfl⟩:=du_2 e1;have hk:k < E.length:=(List.getElem?_eq_some_iff.mp e2).1;have t1:=db_9 e2;have t2:=du_3 E (k + 1);rw [Nat.zero_add];obtain⟨st',a1',a4',r',s',l',e3⟩:=cf_5 s (.sh (.lst (eL E))) k ps a4 r (N:=E.length) (fun m p z=>by omega) hk hE (by omega);refine⟨_,rfl,_, .inl e3,st',a1',_,_,a4',r'.imp fun m p=> ?_,s',by omega,rfl⟩;constructor
   ·rintro (⟨z1,z2⟩|⟨rfl,z⟩)
    ·exact⟨z1,by omega⟩
    ·exact⟨⟨ps,e2,z⟩,by omega⟩
   ·rintro ⟨⟨e,z1,z2⟩,z3⟩
    by_cases h:m=k
    ·subst h;rw [e2] at z1;cases z1;exact .inr ⟨rfl,z2⟩
    ·exact .inl ⟨⟨e,z1,z2⟩,by omega⟩)
 have hle:(n_1 0 (eL E)).length=E.length:=by
  have:∀(l:List D) (k:Nat),(n_1 k l).length=l.length:=fun l=>by
   induction l with
   |nil=>intro k;rfl
   |cons d l ih=>intro k;show(n_1 (k + 1) l).length + 1=l.length + 1;rw [ih]
  rw [this];unfold eL;rw [List.length_map]
 rw [hle] at r l;rw [List.take_length] at l;refine⟨st,a1,r.imp fun n p=>⟨fun z=>z.1,fun z=>⟨z, ?_⟩⟩,s,l, ?_⟩
 ·obtain⟨e,z1,_⟩:=z;exact(List.getElem?_eq_some_iff.mp z1).1
 ·have e1:s_3 (eVar 0) (vsh [.sh (.lst (eL E)), .ow (.dic []), .no, .no, .no])= .ok (n_1 0 (eL E)):=rfl;have t1:g_1 [0] (s_3 (eVar 0)) (gV2 2 3) l_7 [.sh (.lst (eL E)), .ow (.dic []), .no, .no, .no]= .nx [.sh (.lst (eL E)),a1,a2,a3,a4]:=by
   simp only [g_1];rw [e1];exact e
  have t0:sSet 1 [] ar_3 (start3 5 [.lst (eL E)])= .nx [.sh (.lst (eL E)), .ow (.dic []), .no, .no, .no]:=rfl;rcases s with rfl|⟨rfl,rfl⟩
  ·refine⟨_,r_4 ?_, .inl ⟨rfl,rfl⟩⟩;unfold x_8;rw [a_9 t0,a_9 t1];rfl
  ·refine⟨_,r_4 ?_, .inr ⟨rfl,rfl,rfl⟩⟩;unfold x_8;rw [a_9 t0,a_9 t1];rfl
theorem cq_7(st:St1)(n:Nat){ps:List Nat}{k p:Nat}(h:ps[k]? =some p):o_2 st n (ps.take (k + 1))=rpS (o_2 st n (ps.take k)) p (((lkS (o_2 st n (ps.take k)) p).getD []).filter fun m=>decide (m≠n)):=by
 unfold o_2;rw [List.take_add_one,h,List.foldl_append];rfl
theorem dl_3(st:St1)(n:Nat)(ps:List Nat)(hp:∀p∈ps,(lkS st p).isSome=true):n_2 [.int (n:Int),eT ps] (.dic (stT st))=some (.dic (stT (o_2 st n ps))):=by
 obtain⟨Δ',e,a3,rfl⟩:=f_6 (gV 3) x_9 (fun k Δ=>∃a3,Δ= [.sh (.int (n:Int)), .sh (eT ps), .lt (.dic (stT (o_2 st n (ps.take k)))),a3]) (ds:=zi ps) (Δ:= [.sh (.int (n:Int)), .sh (eT ps), .lt (.dic (stT st)), .no])
  ⟨_,rfl⟩ (fun k d Δ hd hI=>by
   obtain⟨a3,rfl⟩:=hI;obtain⟨p,hk,rfl⟩:=db_8 hd;have hs:(lkS (o_2 st n (ps.take k)) p).isSome=true:=by
    rw [←lk_mem,af_1,lk_mem];exact hp p (List.mem_of_getElem? hk)
   cases e1:lkS (o_2 st n (ps.take k)) p with
   |none=>rw [e1] at hs;cases hs
   |some ns=>
    have kk:∀k:Nat,keyD (.int (k:Int))=some (kp k):=fun _=>rfl;have e2:r_1 (stT (o_2 st n (ps.take k))) (kp p)=some (.dic ((inner ns).map fun p=>(p.1,Tn.sh p.2))):=by rw [ad_8,e1];rfl
    have e3:=cd_7 (inner ns);have e5:=am_7 (ns.filter fun m=>decide (m≠n)) (o_2 st n (ps.take k)) p;unfold inT at e5;refine⟨_,rfl, [.sh (.int (n:Int)), .sh (eT ps), .lt (.dic (stT (o_2 st n (ps.take (k + 1))))), .sh (.int (p:Int))], .inl ?_,_,rfl⟩;rw [cq_7 st n hk,e1,Option.getD_some]
    simp_arith [x_9,cj_3,evs,Option.bind_some,Sl.tree,dt_1,kk,e2,e3,cf_3,e5,Sl.mk])
 rw [w_3,List.take_length] at e;unfold n_2 bv_7;have e1:ar_9 (bm_6 4 [.int (n:Int),eT ps] (.dic (stT st)))= .nx [.sh (.int (n:Int)), .sh (eT ps), .lt (.dic (stT (o_2 st n ps))),a3]:=e;rw [e1];rfl
def k_1(ord:List (Nat×Nat)):List D:=ord.map fun x=> .tup [.int (x.1:Int), .int (x.2:Int)]
abbrev Qd(E:List (List Nat))(a1 s2:Sl)(w:List Nat)(ord:List (Nat×Nat))(a6:Sl)(p:Nat)(x0:Sl):SE:= [.sh (.lst (eL E)),a1,s2, .ow (.lst (zi w)), .ow (.lst (k_1 ord)), .ow (.dic (inner (ord.map (·.1)))),a6, .sh (.int (p:Int)),x0]
def t_0(E:List (List Nat))(T:List Nat):Nat:=(((List.range E.length).filter fun n=>decide (n∉T)).map fun n=>(E.getD n []).length).sum
structure Peel(E:List (List Nat))(st:St1)(ord:List (Nat×Nat)):Prop where
 rep:Rep st (fun n p=>RE E n p∧n∉ord.map (·.1))
 nd:(ord.map (·.1)).Nodup
 ok:∀x∈ord,RE E x.1 x.2
 alone:∀x∈ord,∀m,m∉ord.map (·.1)→¬RE E m x.2
 pw:ord.Pairwise fun x y=>¬RE E y.1 x.2
 keys:∀n p,RE E n p→(lkS st p).isSome=true
theorem RE.lt{E:List (List Nat)}{n p:Nat}(h:RE E n p):n < E.length:=by
 obtain⟨e,h1,_⟩:=h;exact(List.getElem?_eq_some_iff.mp h1).1
theorem Peel.next{E:List (List Nat)}{st:St1}{ord:List (Nat×Nat)}(h:Peel E st ord){p n:Nat}{ps:List Nat}(hl:lkS st p=some [n])(he:E[n]? =some ps):Peel E (o_2 st n ps) (ord ++ [(n,p)])∧n∉ord.map (·.1):=by
 obtain⟨_,h2⟩:=h.rep.at_ p [n] hl;have hn:=(h2 n).mp (by simp);have only:∀m,RE E m p→m∉ord.map (·.1)→m=n:=fun m z1 z2=>by
  have:=(h2 m).mpr ⟨z1,z2⟩;simpa using this
 refine⟨⟨?_, ?_, ?_, ?_, ?_, ?_⟩,hn.2⟩
 ·refine(h.rep.away n ps fun q z=> ?_).imp fun m q=> ?_
  ·obtain⟨⟨e,z1,z2⟩,_⟩:=z;rw [he] at z1;cases z1;exact z2
  ·simp only [List.map_append,List.map_cons,List.map_nil,List.mem_append,List.mem_singleton];constructor
   ·rintro ⟨⟨z1,z2⟩,z3⟩
    exact⟨z1,fun z=>z.elim z2 z3⟩
   ·rintro ⟨z1,z2⟩
    exact⟨⟨z1,fun z=>z2 (.inl z)⟩,fun z=>z2 (.inr z)⟩
 ·rw [List.map_append];refine List.nodup_append.mpr ⟨h.nd,by simp,fun a ha b hb=> ?_⟩;have:b=n:=by simpa using hb
  rintro rfl
  exact hn.2 (this▸ha)
 ·intro x hx;rcases List.mem_append.mp hx with hx|hx
  ·exact h.ok x hx
  ·have:x=(n,p):=by simpa using hx
   rw [this];exact hn.1
 ·intro x hx m hm;have hm':m∉ord.map (·.1):=fun z=>hm (by rw [List.map_append];exact List.mem_append_left _ z);rcases List.mem_append.mp hx with hx|hx
  ·exact h.alone x hx m hm'
  ·have:x=(n,p):=by simpa using hx
   subst this;intro z;have:=only m z hm';exact hm (by rw [this];simp)
 ·refine List.pairwise_append.mpr ⟨h.pw,by simp,fun x hx y hy=> ?_⟩;have:y=(n,p):=by simpa using hy
  subst this;exact h.alone x hx n hn.2
 ·intro m q z;rw [←lk_mem,af_1,lk_mem];exact h.keys m q z
theorem ab_7{f:Nat→Nat}{n:Nat}:∀{l:List Nat} {P Q:Nat→Bool},l.Nodup→n∈l→P n=true→Q n=false→(∀m,m≠n→Q m=P m)→((l.filter P).map f).sum=((l.filter Q).map f).sum + f n
 | [],_,_,_,h,_,_,_=>by cases h
 |a::l,P,Q,nd,h,h1,h2,h3=>by
  rw [List.nodup_cons] at nd
  by_cases ha:a=n
  ·subst ha;have:l.filter P=l.filter Q:=List.filter_congr fun m hm=>(h3 m fun z=>nd.1 (z▸hm)).symm;rw [List.filter_cons_of_pos h1,List.filter_cons_of_neg (by rw [h2];decide),this,List.map_cons,List.sum_cons];omega
  ·have hm:n∈l:=by
    rcases List.mem_cons.mp h with z|z
    ·exact absurd z.symm ha
    ·exact z
   have ih:=ab_7 (f:=f) nd.2 hm h1 h2 h3;have e:=h3 a ha;cases hp:P a with
   |true=>
    rw [List.filter_cons_of_pos hp,List.filter_cons_of_pos (by rw [e];exact hp),List.map_cons,List.sum_cons,List.map_cons,List.sum_cons,ih];omega
   |false=>rw [List.filter_cons_of_neg (by rw [hp];decide),List.filter_cons_of_neg (by rw [e,hp];decide),ih]
theorem cq_8{E:List (List Nat)}{T:List Nat}{n:Nat}{ps:List Nat}(he:E[n]? =some ps)(hn:n∉T):t_0 E T=t_0 E (T ++ [n]) + ps.length:=by
 have hlt:n < E.length:=(List.getElem?_eq_some_iff.mp he).1;unfold t_0;rw [ab_7 (f:=fun n=>(E.getD n []).length) (n:=n) (Q:=fun m=>decide (m∉T ++ [n])) List.nodup_range (List.mem_range.mpr hlt) (by simpa using hn) (by simp) fun m hm=>by simp [hm]];simp only [List.getD_eq_getElem?_getD,he,Option.getD_some]
theorem dl_4(E:List (List Nat)):t_0 E []=tot E:=by
 unfold t_0 tot;have:(List.range E.length).filter (fun n=>decide (n∉([]:List Nat)))=List.range E.length:=by
  rw [List.filter_eq_self];simp
 rw [this]
 congr 1
 apply List.ext_getElem
 ·simp
 ·intro i h1 h2;simp only [List.getElem_map,List.getElem_range];have hi:i < E.length:=by simpa using h2
  rw [List.getD_eq_getElem?_getD,List.getElem?_eq_getElem hi,Option.getD_some]
theorem dc_0:∀{l:List Nat} {x:Nat},x∈l→x≤l.sum
 |a::l,x,h=>by
  rw [List.sum_cons];rcases List.mem_cons.mp h with z|z
  ·omega
  ·have:=dc_0 z;omega
theorem turn{E:List (List Nat)}{st:St1}{ord:List (Nat×Nat)}(h:Peel E st ord)(hE:E.length≤900)(a1 a6 a7 a8:Sl){s2:Sl}(hs:stSl st s2){w:List Nat}{p:Nat}(hp:(lkS st p).isSome=true)(hW:w.length + tot E≤100000)(ho:ord.length≤900):
  ∃st' ao w' s2' a8',Peel E st' ao∧stSl st' s2'∧(∀q∈w',q∈w∨∃m,RE E m q)∧ao.length≤ord.length + 1∧w'.length + t_0 E (ao.map (·.1))=w.length + t_0 E (ord.map (·.1))∧st'.map (·.1)=st.map (·.1)∧((∀q m,lkS st q=some [m]→q∈w ++ [p])→∀q m,lkS st' q=some [m]→q∈w')∧
   s_9 [.sh (.lst (eL E)),a1,s2, .ow (.lst (zi (w ++ [p]))), .ow (.lst (k_1 ord)), .ow (.dic (inner (ord.map (·.1)))),a6,a7,a8]= .nx [.sh (.lst (eL E)),a1,s2', .ow (.lst (zi w')), .ow (.lst (k_1 ao)), .ow (.dic (inner (ao.map (·.1)))),a6, .sh (.int (p:Int)),a8']:=by
 have kk:∀k:Nat,keyD (.int (k:Int))=some (kp k):=fun _=>rfl;have z1:(zi (w ++ [p]))[(zi (w ++ [p])).length - 1]? =some (.int (p:Int)):=by
  rw [w_3];unfold zi;rw [List.getElem?_map,List.length_append];simp
 have z2:(zi (w ++ [p])).dropLast=zi w:=by unfold zi;rw [List.map_append];simp
 have t1:bv_6 7 3 [.sh (.lst (eL E)),a1,s2, .ow (.lst (zi (w ++ [p]))), .ow (.lst (k_1 ord)), .ow (.dic (inner (ord.map (·.1)))),a6,a7,a8]= .nx (Qd E a1 s2 w ord a6 p a8):=by
  simp only [bv_6,List.getElem?_cons_succ,List.getElem?_cons_zero,z1,z2,List.set_cons_succ,List.set_cons_zero]
 cases e:lkS st p with
 |none=>rw [e] at hp;cases hp
 |some ns=>
  have g1:getK (.dic (Tn.ks (stT st))) (.int (p:Int))= .ok (.sh (.dic (inner ns))):=by
   simp only [getK,kk,bp_7,e,Option.map_some]
  have g2:lenK [.dic (inner ns)]= .ok (.sh (.int (ns.length:Int))):=by simp only [lenK,ap_9]
  have an:=hs.any
  by_cases hl:(ns.length:Int)=1
  ·obtain⟨n,rfl⟩:=List.length_eq_one_iff.mp (show ns.length=1 by omega);obtain⟨⟨ps,he,hpp⟩,_⟩:=((h.rep.at_ p [n] e).2 n).mp (by simp);obtain⟨h',hn⟩:=h.next e he;have m1:minK [.dic (inner [n])]= .ok (.sh (.int (n:Int))):=rfl;have hT:=dl_3 st n ps fun q hq=>h.keys n q ⟨ps,he,hq⟩;have hI:ixD (.lst (eL E)) (.int (n:Int))= .ok (.sh (eT ps)):=ah_9 (am_4 (dn_7 he));have dg:putA (inner (ord.map (·.1))) (kp n) (.bl true)=inner ((ord ++ [(n,p)]).map (·.1)):=by
    rw [bi_7,if_neg hn,List.map_append];rfl
   have hlo:(k_1 ord).length < 16777216:=by unfold k_1;rw [List.length_map];omega
   have hli:(inner (ord.map (·.1))).length < 16777216:=by rw [ap_9,List.length_map];omega
   have hps:ps.length≤tot E:=by
    unfold tot;have hm:ps.length∈E.map List.length:=List.mem_map.mpr ⟨ps,List.mem_of_getElem? he,rfl⟩;exact dc_0 hm
   have hlw:(zi w).length + (zi ps).length≤16777216:=by rw [w_3,w_3];omega
   refine⟨o_2 st n ps,ord ++ [(n,p)],w ++ ps, .tr (.dic (stT (o_2 st n ps))), .sh (.int (n:Int)),h', .inl rfl,fun q hq=> ?_,by simp, ?_,af_1 n ps st,fun hc q m eq=> ?_, ?_⟩
   ·rcases List.mem_append.mp hq with z|z
    ·exact .inl z
    ·exact .inr ⟨n,ps,he,z⟩
   ·rw [List.length_append,cq_8 he hn,List.map_append];show w.length + ps.length + t_0 E (ord.map (·.1) ++ [n])=_;omega
   ·rw [aw_5] at eq
    by_cases hq:q∈ps
    ·exact List.mem_append_right _ hq
    ·rw [if_neg hq] at eq;rcases List.mem_append.mp (hc q m eq) with z|z
     ·exact List.mem_append_left _ z
     ·have:q=p:=by simpa using z
      subst this;exact absurd hpp hq
   ·unfold s_9;rw [a_9 t1];have hz:zi w ++ zi ps=zi (w ++ ps):=by unfold zi;rw [List.map_append]
    have ho2:k_1 ord ++ [.tup [.int (n:Int), .int (p:Int)]]=k_1 (ord ++ [(n,p)]):=by unfold k_1;rw [List.map_append];rfl
    have ht:=hs.tree;have u1:sSet 8 [2,7] (eCall minK (aCons (eOp getK (eVar 2) (eVar 7)) aNil)) (Qd E a1 s2 w ord a6 p a8)= .nx (Qd E a1 s2 w ord a6 p (.sh (.int (n:Int)))):=by
     have v1:eCall minK (aCons (eOp getK (eVar 2) (eVar 7)) aNil) (vsh (Qd E a1 s2 w ord a6 p a8))= .no:=by
      rcases hs with rfl|⟨_,rfl⟩ <;> rfl
     have v2:eCall minK (aCons (eOp getK (eVar 2) (eVar 7)) aNil) (vall (Qd E a1 s2 w ord a6 p a8))= .ok (.sh (.int (n:Int))):=by
      simp_arith [evs,an,g1,m1]
     unfold sSet;rw [v1,v2];rfl
    have u5:ay_5 2 n_2 (eVar 8) (eOp ixD (eVar 0) (eVar 8)) [.sh (.lst (eL E)),a1,s2, .ow (.lst (zi w)), .ow (.lst (k_1 (ord ++ [(n,p)]))), .ow (.dic (inner ((ord ++ [(n,p)]).map (·.1)))),a6, .sh (.int (p:Int)), .sh (.int (n:Int))]= .nx [.sh (.lst (eL E)),a1, .tr (.dic (stT (o_2 st n ps))), .ow (.lst (zi w)), .ow (.lst (k_1 (ord ++ [(n,p)]))), .ow (.dic (inner ((ord ++ [(n,p)]).map (·.1)))),a6, .sh (.int (p:Int)), .sh (.int (n:Int))]:=by
     simp_arith [ay_5,evs,Option.bind_some,ht,hI,hT,Sl.mk]
    have test:eTest (eOp eqD (eCall lenK (aCons (eOp getK (eVar 2) (eVar 7)) aNil)) (eC (.int 1))) (vall (Qd E a1 s2 w ord a6 p a8))= .ok true:=by
     have g3:lenK [.dic (inner [n])]= .ok (.sh (.int 1)):=rfl
     simp_arith [evs,an,g1,g3,f_2]
    unfold sIf;rw [test];show sSeq _ _ _=_;rw [a_9 u1];have u2:∀g:FS,sSeq (sApp 4 (eTup (aCons (eVar 8) (aCons (eVar 7) aNil)))) g (Qd E a1 s2 w ord a6 p (.sh (.int (n:Int))))=g [.sh (.lst (eL E)),a1,s2, .ow (.lst (zi w)), .ow (.lst (k_1 (ord ++ [(n,p)]))), .ow (.dic (inner (ord.map (·.1)))),a6, .sh (.int (p:Int)), .sh (.int (n:Int))]:=fun g=>a_9 (by simp_arith [sApp,evs,hlo,ho2]);have u3:∀g:FS,sSeq (ak_5 5 [] (eVar 8) (eC (.bl true))) g [.sh (.lst (eL E)),a1,s2, .ow (.lst (zi w)), .ow (.lst (k_1 (ord ++ [(n,p)]))), .ow (.dic (inner (ord.map (·.1)))),a6, .sh (.int (p:Int)), .sh (.int (n:Int))]=g [.sh (.lst (eL E)),a1,s2, .ow (.lst (zi w)), .ow (.lst (k_1 (ord ++ [(n,p)]))), .ow (.dic (inner ((ord ++ [(n,p)]).map (·.1)))),a6, .sh (.int (p:Int)), .sh (.int (n:Int))]:=fun g=>a_9 (by simp_arith [ak_5,evs,kk,hli,dg]);rw [u2,u3,a_9 u5]
    simp_arith [sExt,evs,hI,eT,hlw,hz]
  ·refine⟨st,ord,w,s2,a8,h,hs,fun q hq=> .inl hq,by omega,rfl,rfl,fun hc q m eq=> ?_, ?_⟩
   ·rcases List.mem_append.mp (hc q m eq) with z|z
    ·exact z
    ·have:q=p:=by simpa using z
     subst this;rw [e] at eq;cases eq;exact absurd rfl hl
   unfold s_9;rw [a_9 t1];have test:eTest (eOp eqD (eCall lenK (aCons (eOp getK (eVar 2) (eVar 7)) aNil)) (eC (.int 1))) (vall (Qd E a1 s2 w ord a6 p a8))= .ok false:=by
    simp_arith [evs,an,g1,g2,f_2,hl]
   unfold sIf;rw [test];rfl
abbrev Qe(E:List (List Nat))(size:Int)(s2':Sl)(ord:List (Nat×Nat))(x0 x1 x2 x3:Sl):SE:= [.sh (.lst (eL E)), .sh (.int size),s2', .ow (.lst []), .ow (.lst (k_1 ord)),x0,x1,x2,x3]
theorem cq_9(E:List (List Nat))(hE:E.length≤900)(hT:tot E≤900)(a1 a6:Sl):∀(k:Nat) (st:St1) (ord:List (Nat×Nat)) (w:List Nat) (s2 a7 a8:Sl) (fuel:Nat),Peel E st ord→stSl st s2→(∀q∈w,(lkS st q).isSome=true)→w.length + t_0 E (ord.map (·.1))=k→k < fuel→k≤1800→(∀q m,lkS st q=some [m]→q∈w)→
  ∃st' ao s2' a7' a8',Peel E st' ao∧stSl st' s2'∧(∀q m,lkS st' q≠some [m])∧
   i_4 [3] aa_4 s_9 fuel [.sh (.lst (eL E)),a1,s2, .ow (.lst (zi w)), .ow (.lst (k_1 ord)), .ow (.dic (inner (ord.map (·.1)))),a6,a7,a8]= .nx [.sh (.lst (eL E)),a1,s2', .ow (.lst []), .ow (.lst (k_1 ao)), .ow (.dic (inner (ao.map (·.1)))),a6,a7',a8']:=by
 intro k
 induction k with
 |zero=>
  intro st ord w s2 a7 a8 fuel h hs hw hk hf _ hc;have hw0:w= []:=List.eq_nil_of_length_eq_zero (by omega);subst hw0;obtain⟨f,rfl⟩:∃f,fuel=f + 1:=⟨fuel - 1,by omega⟩;refine⟨st,ord,s2,a7,a8,h,hs,fun q m eq=> ?_,ap_3 ?_⟩
  ·have:=hc q m eq;simp at this
  ·rcases hs with rfl|⟨_,rfl⟩ <;> rfl
 |succ k ih=>
  intro st ord w s2 a7 a8 fuel h hs hw hk hf hb hc;obtain⟨f,rfl⟩:∃f,fuel=f + 1:=⟨fuel - 1,by omega⟩;rcases List.eq_nil_or_concat w with rfl|⟨w0,p,rfl⟩
  ·refine⟨st,ord,s2,a7,a8,h,hs,fun q m eq=> ?_,ap_3 ?_⟩
   ·have:=hc q m eq;simp at this
   ·rcases hs with rfl|⟨_,rfl⟩ <;> rfl
  ·have ho:ord.length≤900:=by
    have:=few h.nd (n:=E.length) fun x hx=>by
     obtain⟨y,hy,rfl⟩:=List.mem_map.mp hx;exact(h.ok y hy).lt
    rw [List.length_map] at this;omega
   rw [List.concat_eq_append] at *
   obtain⟨st',ao,w',s2',a8',h',hs',hw',_,hm',hk',hc',e⟩:=turn h hE a1 a6 a7 a8 hs (w:=w0) (p:=p) (hw p (by simp)) (by rw [List.length_append] at hk;simp at hk;omega) ho;have cf:∀q,(lkS st q).isSome=true→(lkS st' q).isSome=true:=fun q z=>by
    rw [←lk_mem,hk',lk_mem];exact z
   obtain⟨st2,fw,s3,a7',dh,h2,hs2,hc2,e2⟩:=ih st' ao w' s2' (.sh (.int (p:Int))) a8' f h' hs' (fun q hq=>by
    rcases hw' q hq with z|⟨m,z⟩
    ·exact cf q (hw q (by simp [z]))
    ·exact h'.keys m q z) (by rw [hm'];rw [List.length_append] at hk;simp at hk;omega) (by omega) (by omega) (hc' hc)
   refine⟨st2,fw,s3,a7',dh,h2,hs2,hc2, ?_⟩;rw [bw_2 (Δ':= [.sh (.lst (eL E)),a1,s2', .ow (.lst (zi w')), .ow (.lst (k_1 ao)), .ow (.dic (inner (ao.map (·.1)))),a6, .sh (.int (p:Int)),a8']) ?_ e]
   ·exact e2
   ·have hz:(0:Int) < ((zi (w0 ++ [p])).length:Int):=by rw [w_3,List.length_append];simp
    simp_arith [aa_4,evs,ay_6,m_7,cy_5,hz]
def z_0(E:List (List Nat))(ord:List (Nat×Nat)):List Nat:=(List.range E.length).filter fun n=>decide (n∉ord.map (·.1))
theorem bi_8(n:Nat):b_5 0 n=zi (List.range n):=by
 unfold b_5 zi;apply List.map_congr_left;intro k _;rw [Int.zero_add]
theorem cr_0(E:List (List Nat))(size:Int)(hE:E.length≤900)(hT:tot E≤900):∃(st:St1) (ord:List (Nat×Nat)),Peel E st ord∧(∀q m,lkS st q≠some [m])∧
  ak_9 [.lst (eL E), .int size]= .ok (.tr (.tup [Tn.of (.lst (k_1 ord)),Tn.of (.lst (zi (z_0 E ord)))])):=by
 obtain⟨st,s2,r,hs,hl,w,ew,hw⟩:=cq_6 E hE hT;have P0:Peel E st []:=⟨r.imp fun n p=>by simp,by simp,fun x h=>by simp at h,fun x h=>by simp at h,by simp,fun n p z=>r.all n p z⟩;have cj:(Tn.ks (stT st)).map (fun p=>kD p.1)=zi (st.map (·.1)):=by
  rw [cf_2,List.map_map];unfold zi;rw [List.map_map];rfl
 obtain⟨st',ord,s2',a7,a8,h',hs',hc',e⟩:=cq_9 E hE hT (.sh (.int size)) .no (st.length + tot E) st [] (st.map (·.1)) s2 .no .no 3000 P0 hs (fun q hq=>lk_mem.mp hq) (by rw [List.length_map,List.map_nil,dl_4]) (by omega) (by omega) (fun q m eq=>lk_mem.mpr (by rw [eq];rfl));refine⟨st',ord,h',hc', ?_⟩;have t1:sSet 2 [0] (eFn 1 o_7 (aCons (eVar 0) aNil)) (start3 9 [.lst (eL E), .int size])= .nx [.sh (.lst (eL E)), .sh (.int size),s2, .no, .no, .no, .no, .no, .no]:=by
  rcases hw with⟨rfl,rfl⟩|⟨_,rfl,rfl⟩
  ·simp_arith [evs,ew]
  ·simp_arith [evs,ew]
 have t2:ar_4 3 (eCall cj_5 (aCons (eVar 2) aNil)) [.sh (.lst (eL E)), .sh (.int size),s2, .no, .no, .no, .no, .no, .no]= .nx [.sh (.lst (eL E)), .sh (.int size),s2, .ow (.lst (zi (st.map (·.1)))), .no, .no, .no, .no, .no]:=by
  have hf:(zi (st.map (·.1))).all flatD=true:=by
   unfold zi;rw [List.all_map,List.all_eq_true];intro x _;rfl
  simp_arith [ar_4,evs,hs.any,cj_5,cj,hf]
 have ef:∀b2 b3 b4 b7 b8:Option D,c_1 1 (iArgs n_7 (aCons (eCall h_6 (aCons (eVar 0) aNil)) aNil)) (gC 9) k_9 (eVar 9) [some (.lst (eL E)),some (.int size),b2,b3,b4,some (.dic (inner (ord.map (·.1)))),none,b7,b8]= .ok (.ow (.lst (zi (z_0 E ord)))):=fun b2 b3 b4 b7 b8=>by
  have hr:iArgs n_7 (aCons (eCall h_6 (aCons (eVar 0) aNil)) aNil) [some (.lst (eL E)),some (.int size),b2,b3,b4,some (.dic (inner (ord.map (·.1)))),none,b7,b8]= .ok (zi (List.range E.length)):=by
   have zj:(eL E).length=E.length:=by unfold eL;rw [List.length_map]
   simp_arith [evs,m_7,zj,r_3 (show -4611686018427387903≤(E.length:Int) by omega) (by omega),Int.toNat_natCast,bi_8]
  refine g_4 (m:=1) hr (by rw [w_3,List.length_range];omega) ?_;have hc:=s_6 (fg:=gC 9) (p:=k_9) (f:=eVar 9) (δ:= [some (.lst (eL E)),some (.int size),b2,b3,b4,some (.dic (inner (ord.map (·.1)))),none,b7,b8,none]) (fun d=>match d with| .int i=>decide (i.toNat∉ord.map (·.1))|_=>false) (fun d=>d) (zi (List.range E.length)) (fun d hd=>by
   obtain⟨n,hn,rfl⟩:=List.mem_map.mp hd;refine⟨[some (.lst (eL E)),some (.int size),b2,b3,b4,some (.dic (inner (ord.map (·.1)))),none,b7,b8,some (.int (n:Int))],rfl, ?_,fun _=>⟨.sh (.int (n:Int)),rfl,rfl⟩⟩;have hk:keyD (.int (n:Int))=some (kp n):=rfl
   simp_arith [k_9,evs,inK,hk,az_9,Int.toNat_natCast]
   by_cases h:n∈ord.map (·.1)
   ·simp only [h,decide_true,Bool.not_true,not_true,decide_false]
   ·simp only [h,decide_false,Bool.not_false,not_false_eq_true,decide_true])
  rw [List.map_id'] at hc;show n_0 _ _ _ _ _=_;refine hc.trans ?_;unfold zi z_0;rw [List.filter_map]
  congr 1
 obtain⟨a5,t6⟩:∃a5,sSet 6 [0,5] (c_1 1 (iArgs n_7 (aCons (eCall h_6 (aCons (eVar 0) aNil)) aNil)) (gC 9) k_9 (eVar 9)) (Qe E size s2' ord (.ow (.dic (inner (ord.map (·.1))))) .no a7 a8)= .nx (Qe E size s2' ord a5 (.ow (.lst (zi (z_0 E ord)))) a7 a8):=by
  cases hn:E.length with
  |zero=>
   have e0:E= []:=List.eq_nil_of_length_eq_zero hn;subst e0;refine⟨.ow (.dic (inner (ord.map (·.1)))), ?_⟩;have v1:c_1 1 (iArgs n_7 (aCons (eCall h_6 (aCons (eVar 0) aNil)) aNil)) (gC 9) k_9 (eVar 9) (vsh [.sh (.lst (eL [])), .sh (.int size),s2', .ow (.lst []), .ow (.lst (k_1 ord)), .ow (.dic (inner (ord.map (·.1)))), .no,a7,a8])= .ok (.ow (.lst [])):=rfl;unfold sSet;rw [v1];rfl
  |succ n=>
   refine⟨.sh (.dic (inner (ord.map (·.1)))), ?_⟩;have v1:c_1 1 (iArgs n_7 (aCons (eCall h_6 (aCons (eVar 0) aNil)) aNil)) (gC 9) k_9 (eVar 9) (vsh (Qe E size s2' ord (.ow (.dic (inner (ord.map (·.1))))) .no a7 a8))= .no:=by
    have hr:iArgs n_7 (aCons (eCall h_6 (aCons (eVar 0) aNil)) aNil) (vsh (Qe E size s2' ord (.ow (.dic (inner (ord.map (·.1))))) .no a7 a8))= .ok (zi (List.range (n + 1))):=by
     have zj:(eL E).length=n + 1:=by unfold eL;rw [List.length_map,hn]
     simp_arith [evs,m_7,zj,r_3 (show -4611686018427387903≤((n + 1:Nat):Int) by omega) (by omega),Int.toNat_natCast,bi_8]
    have hz:zi (List.range (n + 1))= .int 0::zi ((List.range n).map Nat.succ):=by rw [List.range_succ_eq_map];rfl
    unfold c_1;rw [hr,R.bind_ok,if_pos (by rw [w_3,List.length_range];omega),hz];rfl
   have v2:=ef (Sl.any s2') (some (.lst [])) (some (.lst (k_1 ord))) (Sl.any a7) (Sl.any a8);have v3:=ef (Sl.pub s2') none none (Sl.pub a7) (Sl.pub a8);unfold sSet;rw [v1];have v2':c_1 1 (iArgs n_7 (aCons (eCall h_6 (aCons (eVar 0) aNil)) aNil)) (gC 9) k_9 (eVar 9) (vall (Qe E size s2' ord (.ow (.dic (inner (ord.map (·.1))))) .no a7 a8))= .ok (.ow (.lst (zi (z_0 E ord)))):=v2;have g1:gsome [0,5] (Qe E size s2' ord (.ow (.dic (inner (ord.map (·.1))))) .no a7 a8)=(Qe E size s2' ord (.sh (.dic (inner (ord.map (·.1))))) .no a7 a8):=rfl;have v3':c_1 1 (iArgs n_7 (aCons (eCall h_6 (aCons (eVar 0) aNil)) aNil)) (gC 9) k_9 (eVar 9) (vsh (Qe E size s2' ord (.sh (.dic (inner (ord.map (·.1))))) .no a7 a8))= .ok (.ow (.lst (zi (z_0 E ord)))):=v3;simp only [v2',W.d_ow,flatD,Bool.false_eq_true,if_false,g1,v3',sPut,List.set_cons_succ,List.set_cons_zero]
 refine r_4 ?_;unfold bx_9;rw [a_9 t1,a_9 t2];have t3:sSet 4 [] (eLst aNil) [.sh (.lst (eL E)), .sh (.int size),s2, .ow (.lst (zi (st.map (·.1)))), .no, .no, .no, .no, .no]= .nx [.sh (.lst (eL E)), .sh (.int size),s2, .ow (.lst (zi (st.map (·.1)))), .ow (.lst []), .no, .no, .no, .no]:=rfl;have t4:sSet 5 [] ar_3 [.sh (.lst (eL E)), .sh (.int size),s2, .ow (.lst (zi (st.map (·.1)))), .ow (.lst []), .no, .no, .no, .no]= .nx [.sh (.lst (eL E)), .sh (.int size),s2, .ow (.lst (zi (st.map (·.1)))), .ow (.lst []), .ow (.dic []), .no, .no, .no]:=rfl;rw [a_9 t3,a_9 t4];have e':i_4 [3] aa_4 s_9 3000 [.sh (.lst (eL E)), .sh (.int size),s2, .ow (.lst (zi (st.map (·.1)))), .ow (.lst []), .ow (.dic []), .no, .no, .no]=_:=e;rw [a_9 e',a_9 t6];rfl
theorem as_9(p n:Nat):i_7 [.int (p:Int), .int (n:Int)]= .ok (.sh (.bl (decide (p < n)))):=by
 simp_arith [i_7,ai_2,evs,ah_4,cj_9,ar_5,show(0:Int)≤(p:Int) by omega]
 rw [show decide ((p:Int) < (n:Int))=decide (p < n) by simp]
theorem am_8(z m:Int)(h:0 < m):q_5 [.int z, .int m]= .ok (.sh (.int (z % m))):=by
 simp_arith [q_5,as_0,evs,f_2,show¬m=0 by omega,f_3 h]
def at0(ts:List Int)(p:Nat):Int:=ts.getD p 0
def f_4(ts:List Int)(ps:List Nat):Int:=(ps.map (at0 ts)).sum
theorem dc_1{ts:List Int}{p:Nat}(h:p < ts.length):atI (ts.map D.int) (p:Int)=some (.int (at0 ts p)):=by
 refine am_4 ?_;rw [List.getElem?_map];simp [at0,List.getD,h]
theorem dl_5(ts:List Int)(a1 a2 a3:Option D)(ps:List Nat)(h:∀p∈ps,p < ts.length):
  n_0 (gC 4) w_1 w_0 [some (.lst (ts.map .int)),a1,a2,a3,none] (zi ps)= .ok ((ps.map fun p=>D.int (at0 ts p))):=by
 have:=s_6 (fg:=gC 4) (p:=w_1) (f:=w_0) (δ:= [some (.lst (ts.map .int)),a1,a2,a3,none]) (fun _=>true) (fun d=>match d with| .int i=> .int (at0 ts i.toNat)|d=>d) (zi ps) fun d hd=>by
  obtain⟨p,hp,rfl⟩:=List.mem_map.mp hd;have hl:=h p hp;refine⟨[some (.lst (ts.map .int)),a1,a2,a3,some (.int (p:Int))],rfl, ?_,fun _=>⟨.sh (.int (at0 ts p)), ?_,by simp⟩⟩
  ·simp_arith [w_1,evs,m_7,List.length_map,as_9,hl]
  ·simp_arith [w_0,evs,ah_9 (dc_1 hl)]
 rw [this,List.filter_eq_self.mpr fun _ _=>rfl]
 congr 1
 unfold zi;rw [List.map_map];refine List.map_congr_left fun p _=> ?_;simp
theorem bi_9(ts:List Int)(ps:List Nat)(m:Int)(hm:0 < m)(h:∀p∈ps,p < ts.length)(hl:ps.length≤1000):n_3 [.lst (ts.map .int), .tup (zi ps), .int m]= .ok (.sh (.int (f_4 ts ps % m))):=by
 have ec:=g_4 (m:=1) (fi:=iOf (eVar 1)) (fg:=gC 4) (p:=w_1) (f:=w_0) (δ:= [some (.lst (ts.map .int)),some (.tup (zi ps)),some (.int m),none]) (ds:=zi ps) (by simp_arith [evs]) (by unfold zi;rw [List.length_map];omega) (dl_5 ts _ _ _ ps h)
 simp_arith [n_3,by_0,evs,ec,da_7,am_8 _ m hm]
 rfl
theorem af_2(l:List Int)(i p:Nat)(v:Int):at0 (l.set i v) p=if p=i∧i < l.length then v else at0 l p:=by
 unfold at0;rw [List.getD_eq_getElem?_getD,List.getElem?_set]
 by_cases h:i=p
 ·subst h
  by_cases h2:i < l.length
  ·simp [h2]
  ·simp [h2,List.getD]
 ·have:¬p=i:=fun z=>h z.symm;simp [h,this]
theorem at_0{ts us:List Int}:∀{ps:List Nat},(∀p∈ps,at0 ts p=at0 us p)→f_4 ts ps=f_4 us ps:=by
 intro ps h;unfold f_4;rw [List.map_congr_left h]
theorem dc_2(S w m:Int)(h0:0≤w)(h1:w < m):(S + (w - S % m) % m) % m=w:=by
 have e:(S + (w - S % m) % m) % m=(S + (w - S % m)) % m:=by
  rw [Int.add_emod,Int.emod_emod_of_dvd _ (Int.dvd_refl m),←Int.add_emod]
 rw [e];have h2:=Int.mul_ediv_add_emod S m;have e2:S + (w - S % m)=w + m * (S / m):=by omega
 rw [e2,Int.add_mul_emod_self_left];exact Int.emod_eq_of_lt h0 h1
def x_3(E:List (List Nat))(w:List Int)(m:Int)(ts:List Int)(x:Nat×Nat):List Int:=ts.set x.2 ((w.getD x.1 0 - f_4 ts (E.getD x.1 []) % m) % m)
def h_2(E:List (List Nat))(w:List Int)(m:Int)(size:Nat)(L:List (Nat×Nat)):List Int:=L.foldl (x_3 E w m) (List.replicate size 0)
theorem aq_0(E:List (List Nat))(w:List Int)(m:Int)(size:Nat)(L:List (Nat×Nat)):(h_2 E w m size L).length=size:=by
 unfold h_2;have:∀(L:List (Nat×Nat)) (ts:List Int),(L.foldl (x_3 E w m) ts).length=ts.length:=fun L=>by
  induction L with
  |nil=>intro ts;rfl
  |cons x L ih=>intro ts;show(L.foldl (x_3 E w m) (x_3 E w m ts x)).length=_;rw [ih];unfold x_3;rw [List.length_set]
 rw [this,List.length_replicate]
theorem ba_0(E:List (List Nat))(w:List Int)(m:Int)(size:Nat)(L:List (Nat×Nat))(x:Nat×Nat):h_2 E w m size (L ++ [x])=x_3 E w m (h_2 E w m size L) x:=by
 unfold h_2;rw [List.foldl_append];rfl
theorem dc_3{ord:List (Nat×Nat)}{i:Nat}{d:D}(h:(k_1 ord)[i]? =some d):∃x,ord[i]? =some x∧d= .tup [.int (x.1:Int), .int (x.2:Int)]:=by
 unfold k_1 at h;rw [List.getElem?_map] at h;obtain⟨x,e1,e2⟩:=Option.map_eq_some_iff.mp h;exact⟨x,e1,e2.symm⟩
theorem cf_7(E:List (List Nat))(w:List Int)(m:Int)(size:Nat)(ord:List (Nat×Nat))(hm:0 < m)(hz:size≤100000)(ho:∀x∈ord,∃ps,E[x.1]? =some ps∧(∀p∈ps,p < size)∧ps.length≤1000∧x.2 < size∧x.1 < w.length):
  ad_2 [.lst (eL E), .int (size:Int), .lst (k_1 ord), .lst (w.map .int), .int m]= .ok (.ow (.lst ((h_2 E w m size ord.reverse).map .int))):=by
 have bh:(k_1 ord).reverse=k_1 ord.reverse:=by unfold k_1;rw [List.map_reverse]
 obtain⟨Δ',e,a6,a7,a8,rfl⟩:=f_6 (gV2 6 7) ai_4 (fun k Δ=>∃a6 a7 a8,Δ= [.sh (.lst (eL E)), .sh (.int (size:Int)), .sh (.lst (k_1 ord)), .sh (.lst (w.map .int)), .sh (.int m), .ow (.lst ((h_2 E w m size (ord.reverse.take k)).map .int)),a6,a7,a8]) (ds:=(k_1 ord).reverse)
  (Δ:= [.sh (.lst (eL E)), .sh (.int (size:Int)), .sh (.lst (k_1 ord)), .sh (.lst (w.map .int)), .sh (.int m), .ow (.lst ((h_2 E w m size []).map .int)), .no, .no, .no]) ⟨_,_,_,rfl⟩ (fun k d Δ hk hI=>by
   obtain⟨a6,a7,a8,rfl⟩:=hI;rw [bh] at hk;obtain⟨⟨n,p⟩,hx,rfl⟩:=dc_3 hk;obtain⟨ps,he,hp1,hp2,hp3,hw⟩:=ho (n,p) (List.mem_reverse.mp (List.mem_of_getElem? hx));simp only at he hp3 hw;have hl:=aq_0 E w m size (ord.reverse.take k);have hs:=bi_9 (h_2 E w m size (ord.reverse.take k)) ps m hm (fun q hq=>by rw [hl];exact hp1 q hq) hp2;have hxn:=by_4 (n:=((h_2 E w m size (ord.reverse.take k)).map D.int).length) (i:=p) (by rw [List.length_map,hl];exact hp3);have hI:ixD (.lst (eL E)) (.int (n:Int))= .ok (.sh (eT ps)):=ah_9 (am_4 (dn_7 he));have hW:ixD (.lst (w.map .int)) (.int (n:Int))= .ok (.sh (.int (w.getD n 0))):=ah_9 (am_4 (by rw [List.getElem?_map,List.getElem?_eq_getElem hw,List.getD_eq_getElem?_getD,List.getElem?_eq_getElem hw];rfl));have hs':n_3 [.lst ((h_2 E w m size (ord.reverse.take k)).map .int),eT ps, .int m]= .ok (.sh (.int (f_4 (h_2 E w m size (ord.reverse.take k)) ps % m))):=hs;refine⟨_,rfl, [.sh (.lst (eL E)), .sh (.int (size:Int)), .sh (.lst (k_1 ord)), .sh (.lst (w.map .int)), .sh (.int m), .ow (.lst ((h_2 E w m size (ord.reverse.take (k + 1))).map .int)), .sh (.int (n:Int)), .sh (.int (p:Int)), .sh (.int (w.getD n 0 - f_4 (h_2 E w m size (ord.reverse.take k)) ps % m))], .inl ?_,_,_,_,rfl⟩;have hsn:h_2 E w m size (ord.reverse.take (k + 1))=(h_2 E w m size (ord.reverse.take k)).set p ((w.getD n 0 - f_4 (h_2 E w m size (ord.reverse.take k)) ps % m) % m):=by
    rw [List.take_add_one,hx];show h_2 E w m size (ord.reverse.take k ++ [(n,p)])=_;rw [ba_0];unfold x_3;simp only [List.getD_eq_getElem?_getD,he,Option.getD_some]
   rw [hsn]
   simp_arith [ai_4,evs,gV2,hI,hW,hs',aa_1,as_9,hp3,ci_9,am_8 _ m hm,hxn]
   rw [List.map_set])
 have e0:(List.replicate (size:Int).toNat [D.int 0]).flatten=(h_2 E w m size []).map .int:=by
  unfold h_2;rw [List.foldl_nil,List.map_replicate,Int.toNat_natCast];generalize size=n
  induction n with
  |zero=>rfl
  |succ n ih=>rw [List.replicate_succ,List.flatten_cons,ih,List.replicate_succ];rfl
 have hr:repD [D.int 0] (.int (size:Int))= .ok (.ow (.lst ((h_2 E w m size []).map .int))):=by
  unfold repD;simp only [List.length_cons,List.length_nil];rw [if_pos ⟨by omega,by omega⟩,e0]
 have hle:(k_1 ord).reverse.length=ord.reverse.length:=by rw [bh];unfold k_1;rw [List.length_map]
 rw [hle,List.take_length] at e;have er:iRev (eVar 2) (vsh [.sh (.lst (eL E)), .sh (.int (size:Int)), .sh (.lst (k_1 ord)), .sh (.lst (w.map .int)), .sh (.int m), .ow (.lst ((h_2 E w m size []).map .int)), .no, .no, .no])= .ok (k_1 ord).reverse:=by
  simp_arith [iRev,dn_0,evs]
 simp only [vsh,List.map_cons,List.map_nil,cy_9,cz_0,cz_1] at er
 simp_arith [ad_2,by_1,evs,eRep,hr,g_1,er,e]
theorem dc_4(E:List (List Nat))(w:List Int){m:Int}(hm:0 < m)(size:Nat)(L:List (Nat×Nat))(p:Nat):0≤at0 (h_2 E w m size L) p∧at0 (h_2 E w m size L) p < m:=by
 unfold h_2;have:∀(L:List (Nat×Nat)) (ts:List Int),(∀p,0≤at0 ts p∧at0 ts p < m)→∀p,0≤at0 (L.foldl (x_3 E w m) ts) p∧at0 (L.foldl (x_3 E w m) ts) p < m:=fun L=>by
  induction L with
  |nil=>intro ts h p;exact h p
  |cons x L ih=>
   intro ts h p;refine ih _ (fun q=> ?_) p;unfold x_3;rw [af_2]
   split
   ·exact⟨Int.emod_nonneg _ (by omega),Int.emod_lt_of_pos _ hm⟩
   ·exact h q
 refine this L _ (fun q=> ?_) p;unfold at0;rw [List.getD_eq_getElem?_getD,List.getElem?_replicate]
 split
 ·exact⟨Int.le_refl _,hm⟩
 ·exact⟨Int.le_refl _,hm⟩
theorem bj_0{ts:List Int}{p:Nat}{v:Int}(hp:p < ts.length):∀{ps:List Nat},ps.Nodup→p∈ps→f_4 (ts.set p v) ps=f_4 ts ps - at0 ts p + v
 |a::ps,nd,h=>by
  rw [List.nodup_cons] at nd;have c1:f_4 (ts.set p v) (a::ps)=at0 (ts.set p v) a + f_4 (ts.set p v) ps:=by unfold f_4;rw [List.map_cons,List.sum_cons]
  have c2:f_4 ts (a::ps)=at0 ts a + f_4 ts ps:=by unfold f_4;rw [List.map_cons,List.sum_cons]
  rw [c1,c2]
  by_cases ha:a=p
  ·subst ha;rw [af_2,if_pos ⟨rfl,hp⟩,at_0 (us:=ts) fun q hq=>by
    rw [af_2,if_neg]
    rintro ⟨rfl,_⟩
    exact nd.1 hq]
   omega
  ·have hm:p∈ps:=by
    rcases List.mem_cons.mp h with z|z
    ·exact absurd z.symm ha
    ·exact z
   rw [af_2,if_neg (fun z=>ha z.1),bj_0 hp nd.2 hm];omega
theorem bj_1{E:List (List Nat)}{w:List Int}{m:Int}{size:Nat}(hm:0 < m):∀(ord:List (Nat×Nat)),(∀x∈ord,∃ps,E[x.1]? =some ps∧ps.Nodup∧x.2∈ps∧x.2 < size∧0≤w.getD x.1 0∧w.getD x.1 0 < m)→(ord.Pairwise fun x y=>¬RE E y.1 x.2)→
  (∀x∈ord,f_4 (h_2 E w m size ord.reverse) (E.getD x.1 []) % m=w.getD x.1 0)∧∀p,(∀x∈ord,x.2≠p)→at0 (h_2 E w m size ord.reverse) p=0
 | [],_,_=>⟨fun x h=>by simp at h,fun p _=>by
   unfold h_2 at0;simp only [List.reverse_nil,List.foldl_nil,List.getD_eq_getElem?_getD,List.getElem?_replicate]
   split <;> rfl⟩
 |(n,p)::ord,h,pw=>by
  rw [List.pairwise_cons] at pw;obtain⟨i1,i2⟩:=bj_1 hm ord (fun x hx=>h x (List.mem_cons_of_mem _ hx)) pw.2;obtain⟨ps,he,nd,hp,hlt,w0,w1⟩:=h (n,p) (by simp);simp only at he hp hlt w0 w1;have er:h_2 E w m size ((n,p)::ord).reverse=x_3 E w m (h_2 E w m size ord.reverse) (n,p):=by rw [List.reverse_cons,ba_0]
  have hg:E.getD n []=ps:=by rw [List.getD_eq_getElem?_getD,he];rfl
  have z0:at0 (h_2 E w m size ord.reverse) p=0:=i2 p fun x hx z=>by
   obtain⟨qs,e1,_,e2,_⟩:=h x (List.mem_cons_of_mem _ hx);exact pw.1 x hx ⟨qs,e1,z▸e2⟩
  have hl:=aq_0 E w m size ord.reverse;rw [er];refine⟨fun x hx=> ?_,fun q hq=> ?_⟩
  ·rcases List.mem_cons.mp hx with rfl|hx
   ·simp only;unfold x_3;simp only;rw [hg,bj_0 (by rw [hl];exact hlt) nd hp,z0,Int.sub_zero];exact dc_2 _ _ _ w0 w1
   ·obtain⟨qs,e1,_,_,_⟩:=h x (List.mem_cons_of_mem _ hx);have hn:p∉qs:=fun z=>pw.1 x hx ⟨qs,e1,z⟩;have hg2:E.getD x.1 []=qs:=by rw [List.getD_eq_getElem?_getD,e1];rfl
    rw [←i1 x hx];unfold x_3;rw [hg2]
    congr 1
    refine at_0 fun q hq=> ?_;rw [af_2,if_neg]
    rintro ⟨rfl,_⟩
    exact hn hq
  ·unfold x_3;rw [af_2,if_neg (fun z=>hq (n,p) (by simp) z.1.symm)];exact i2 q fun x hx=>hq x (List.mem_cons_of_mem _ hx)
theorem bj_2(n s z:Int)(hz:0 < z):0≤n_5 n s z∧n_5 n s z < z:=⟨Int.emod_nonneg _ (by omega),Int.emod_lt_of_pos _ hz⟩
def c_2(d:D)(salt kind part:Int):List Nat:=(List.range kind.toNat).map fun(k:Nat)=>(s_1 d salt part (k:Int)).toNat
theorem af_3(d:D)(salt part:Int)(hp:0 < part)(j:Int)(hj:0≤j):0≤s_1 d salt part j∧j * part≤s_1 d salt part j∧s_1 d salt part j < (j + 1) * part:=by
 obtain⟨h0,h1⟩:=bj_2 (e_9 d) (4 * salt + j) part hp;have e:(j + 1) * part=j * part + part:=by rw [Int.add_mul,Int.one_mul]
 have h2:0≤j * part:=Int.mul_nonneg hj (by omega);unfold s_1;omega
theorem ba_1(d:D)(salt kind part:Int)(hp:0 < part):ab_1 d salt kind part=zi (c_2 d salt kind part):=by
 unfold ab_1 zi c_2;rw [List.map_map];apply List.map_congr_left;intro k _;show D.int (s_1 d salt part (0 + (k:Int)))= .int (((s_1 d salt part (k:Int)).toNat:Nat):Int);rw [Int.zero_add,Int.toNat_of_nonneg (af_3 d salt part hp k (by omega)).1]
theorem cf_8(d:D)(salt kind part:Int)(hp:0 < part):(c_2 d salt kind part).Nodup:=by
 unfold c_2;rw [List.nodup_iff_pairwise_ne,List.pairwise_map];refine List.Pairwise.imp (R:=fun a b:Nat=>a < b) (fun{a b} h=> ?_) (List.pairwise_lt_range);obtain⟨a0,a1,a2⟩:=af_3 d salt part hp a (by omega);obtain⟨b0,b1,b2⟩:=af_3 d salt part hp b (by omega);have:((a:Int) + 1) * part≤(b:Int) * part:=Int.mul_le_mul_of_nonneg_right (by omega) (by omega);omega
theorem ai_8(d:D)(salt kind part:Int)(hp:0 < part)(hk:0≤kind):∀p∈c_2 d salt kind part,p < (kind * part).toNat:=by
 intro p h;obtain⟨k,hk',rfl⟩:=List.mem_map.mp h;have hk':=List.mem_range.mp hk';obtain⟨a0,a1,a2⟩:=af_3 d salt part hp k (by omega);have:((k:Int) + 1) * part≤kind * part:=Int.mul_le_mul_of_nonneg_right (by omega) (by omega);omega
theorem x_4(d:D)(salt kind part:Int):(c_2 d salt kind part).length=kind.toNat:=by unfold c_2;simp
def g_8(ks:List D)(salt kind:Int):List (List Nat):=ks.map fun d=>c_2 d salt kind (d_0 (ks.length:Int) kind)
theorem bj_3(ks:List D)(salt kind:Int)(hp:0 < d_0 (ks.length:Int) kind):cf_1 ks salt kind=eL (g_8 ks salt kind):=by
 unfold cf_1 eL g_8;rw [List.map_map];apply List.map_congr_left;intro d _;show D.tup _=D.tup _;rw [ba_1 d salt kind _ hp]
theorem bj_4{α:Type}(c:Nat):∀(l:List α) (f:α→Nat),(∀a∈l,f a=c)→(l.map f).sum=l.length * c
 | [],f,_=>by simp
 |a::l,f,h=>by
  rw [List.map_cons,List.sum_cons,bj_4 c l f fun b hb=>h b (List.mem_cons_of_mem _ hb),h a (by simp),List.length_cons,Nat.add_mul,Nat.one_mul,Nat.add_comm]
theorem cf_9(ks:List D)(salt kind:Int):tot (g_8 ks salt kind)=ks.length * kind.toNat:=by
 unfold tot g_8;rw [List.map_map];exact bj_4 kind.toNat ks _ fun d _=>x_4 d salt kind _
theorem dc_5(a b:D):(W.tr (.tup [Tn.of a,Tn.of b])).d= .tup [a,b]:=by
 show D.tup [(Tn.of a).d,(Tn.of b).d]=_;rw [Tn.of_d,Tn.of_d]
structure Ks(ks:List D)(salt kind:Int):Prop where
 k:∀k∈ks,isKey k
 nd:ks.Nodup
 h1:1≤ks.length
 h2:ks.length≤200
 s0:0≤salt
 s1:salt≤1000000000000
 kd:kind=2∨kind=3
theorem dl_6{ks:List D}{salt kind:Int}(h:Ks ks salt kind):∃st ord,Peel (g_8 ks salt kind) st ord∧(∀q m,lkS st q≠some [m])∧
  ai_3 [.lst ks, .int salt, .int kind]= .ok (.tr (.tup [Tn.of (.lst (k_1 ord)),Tn.of (.lst (zi (z_0 (g_8 ks salt kind) ord)))])):=by
 obtain⟨p1,_,p3,p4⟩:=af_0 (ks.length:Int) kind (by have:=h.h1;omega) (by have:=h.h2;omega) h.kd;have h2:=h.h2;have gn:=cf_9 ks salt kind;have hk3:kind.toNat≤3:=by have:=h.kd;omega
 have hle:ks.length * kind.toNat≤200 * 3:=Nat.mul_le_mul h2 hk3;obtain⟨st,ord,hP,hC,e⟩:=cr_0 (g_8 ks salt kind) (kind * d_0 (ks.length:Int) kind) (by unfold g_8;rw [List.length_map];omega) (by omega);refine⟨st,ord,hP,hC, ?_⟩;have ee:=bz_2 h.k h.nd h.h1 h.h2 salt kind h.s0 h.s1 h.kd;rw [bj_3 ks salt kind p3] at ee;have mm:g_0 (.int kind) (.int (d_0 (ks.length:Int) kind))= .ok (.sh (.int (kind * d_0 (ks.length:Int) kind))):=e_0 (i_6 (by have:=h.kd;omega) (by have:=h.kd;omega))
 simp_arith [ai_3,da_1,evs,ee,m_7,p1,mm,e]
theorem am_9{ks:List D}{salt kind:Int}(h:Ks ks salt kind):∃b:Bool,f_8 [.lst ks, .int salt, .int kind]= .ok (.sh (.bl b))∧(b=true→∃ord:List (Nat×Nat),(∀n,n < ks.length→n∈ord.map (·.1))∧(∃st,Peel (g_8 ks salt kind) st ord)∧
  ai_3 [.lst ks, .int salt, .int kind]= .ok (.tr (.tup [Tn.of (.lst (k_1 ord)),Tn.of (.lst [])]))):=by
 obtain⟨st,ord,hP,hC,e⟩:=dl_6 h;have hx:ixD (.tup [.lst (k_1 ord), .lst (zi (z_0 (g_8 ks salt kind) ord))]) (.int 1)= .ok (.sh (.lst (zi (z_0 (g_8 ks salt kind) ord)))):=ck_0 (am_4 (i:=1) rfl);refine⟨decide (((zi (z_0 (g_8 ks salt kind) ord)).length:Int)=0), ?_,fun hb=> ?_⟩
 ·simp_arith [f_8,az_1,evs,e,dc_5,hx,m_7,f_2]
 ·have hb:=of_decide_eq_true hb;have hz:z_0 (g_8 ks salt kind) ord= []:=by
   apply List.eq_nil_of_length_eq_zero;rw [w_3] at hb;omega
  refine⟨ord,fun n hn=> ?_,⟨st,hP⟩,by rw [e,hz];rfl⟩
  by_cases hm:n∈ord.map (·.1)
  ·exact hm
  ·exfalso;have:n∈z_0 (g_8 ks salt kind) ord:=by
    unfold z_0;rw [List.mem_filter];exact⟨List.mem_range.mpr (by unfold g_8;rw [List.length_map];exact hn),decide_eq_true hm⟩
   rw [hz] at this;simp at this
theorem dn_8{P:Nat→Prop}:∀n,(∃k,k < n∧P k)→∃k,k < n∧P k∧∀j,j < k→¬P j
 |0,⟨k,h,_⟩=>by omega
 |n + 1,⟨k,hk,hp⟩=>by
  by_cases h:∃j,j < n∧P j
  ·obtain⟨j,h1,h2,h3⟩:=dn_8 n h;exact⟨j,by omega,h2,h3⟩
  ·exact⟨k,hk,hp,fun j hj z=>h ⟨j,by omega,z⟩⟩
def xNoTry:Xn:=⟨"NoTry", [], []⟩
theorem ba_2{ks:List D}{kind:Int}(h:Ks ks 0 kind)(most:Int)(m0:0≤most)(m1:most≤1000):(c_0 [.lst ks, .int kind, .int most]= .ex xNoTry∧∀j:Nat,(j:Int) < most→f_8 [.lst ks, .int (j:Int), .int kind]= .ok (.sh (.bl false)))∨
  ∃s:Nat,(s:Int) < most∧c_0 [.lst ks, .int kind, .int most]= .ok (.sh (.int (s:Int)))∧f_8 [.lst ks, .int (s:Int), .int kind]= .ok (.sh (.bl true))∧∀j:Nat,j < s→f_8 [.lst ks, .int (j:Int), .int kind]= .ok (.sh (.bl false)):=by
 have hS:∀s:Nat,s≤1000→Ks ks (s:Int) kind:=fun s hs=>⟨h.k,h.nd,h.h1,h.h2,by omega,by omega,h.kd⟩;have hr:iArgs n_7 (aCons (eVar 2) aNil) (vsh [.sh (.lst ks), .sh (.int kind), .sh (.int most), .no])= .ok (b_5 0 most.toNat):=by
  simp_arith [evs,r_3 (show -4611686018427387903≤most by omega) (by omega)]
 have t0:sExpr [0] (eFn 1 h_0 (aCons (eVar 0) aNil)) (start3 4 [.lst ks, .int kind, .int most])= .nx [.sh (.lst ks), .sh (.int kind), .sh (.int most), .no]:=by
  simp_arith [evs,bp_6 h.k h.nd h.h1 h.h2]
 have body:∀(k:Nat) (a3:Sl),k≤1000→∀b:Bool,f_8 [.lst ks, .int (k:Int), .int kind]= .ok (.sh (.bl b))→m_1 [.sh (.lst ks), .sh (.int kind), .sh (.int most), .sh (.int (k:Int))]=if b then .rt (.sh (.int (k:Int))) else .nx [.sh (.lst ks), .sh (.int kind), .sh (.int most), .sh (.int (k:Int))]:=fun k a3 _ b e=>by
  cases b <;> simp_arith [m_1,evs,e]
 by_cases hx:∃k,k < most.toNat∧f_8 [.lst ks, .int ((k:Nat):Int), .int kind]= .ok (.sh (.bl true))
 ·obtain⟨s,s1,s2,s3⟩:=dn_8 _ hx;right;refine⟨s,by omega, ?_,s2,fun j hj=> ?_⟩
  rotate_left
  ·obtain⟨b,eb,_⟩:=am_9 (hS j (by omega));cases b with
   |false=>exact eb
   |true=>exact absurd eb (s3 j hj)
  have e:=db_6 (gV 3) m_1 (fun k Δ=>∃a3,Δ= [.sh (.lst ks), .sh (.int kind), .sh (.int most),a3]) (ds:=b_5 0 most.toNat) (Δ:= [.sh (.lst ks), .sh (.int kind), .sh (.int most), .no]) (n:=s) (r:= .rt (.sh (.int (s:Int)))) (d:= .int (0 + (s:Int))) ⟨_,rfl⟩ (by
    unfold b_5;rw [List.getElem?_map,List.getElem?_range s1];rfl) (fun k d Δ hk hd hI=>by
    obtain⟨a3,rfl⟩:=hI;obtain⟨_,rfl⟩:=ao_2 hd;obtain⟨b,eb,_⟩:=am_9 (hS k (by omega));have hb:b=false:=by
     cases b with
     |false=>rfl
     |true=>exact absurd eb (s3 k hk)
    subst hb;rw [Int.zero_add];refine⟨_,rfl,_, .inl ((body k a3 (by omega) false eb)),_,rfl⟩) (fun Δ hI=>by
    obtain⟨a3,rfl⟩:=hI;rw [Int.zero_add];exact⟨_,rfl,body s a3 (by omega) true s2⟩) rfl
  refine r_4 ?_;unfold ad_1;rw [a_9 t0];unfold sSeq g_1;rw [hr];simp only [e]
 ·left;refine⟨?_,fun j hj=> ?_⟩
  rotate_left
  ·obtain⟨b,eb,_⟩:=am_9 (hS j (by omega));cases b with
   |false=>exact eb
   |true=>exact absurd ⟨j,by omega,eb⟩ hx
  obtain⟨Δ',e,a3,rfl⟩:=f_6 (gV 3) m_1 (fun k Δ=>∃a3,Δ= [.sh (.lst ks), .sh (.int kind), .sh (.int most),a3]) (ds:=b_5 0 most.toNat) (Δ:= [.sh (.lst ks), .sh (.int kind), .sh (.int most), .no]) ⟨_,rfl⟩ (fun k d Δ hd hI=>by
   obtain⟨a3,rfl⟩:=hI;obtain⟨hk,rfl⟩:=ao_2 hd;obtain⟨b,eb,_⟩:=am_9 (hS k (by omega));have hb:b=false:=by
    cases b with
    |false=>rfl
    |true=>exact absurd ⟨k,hk,eb⟩ hx
   subst hb;rw [Int.zero_add];exact⟨_,rfl,_, .inl (body k a3 (by omega) false eb),_,rfl⟩)
  unfold c_0 bodyD ad_1;rw [a_9 t0];have t1:g_1 [2] (iArgs n_7 (aCons (eVar 2) aNil)) (gV 3) m_1 [.sh (.lst ks), .sh (.int kind), .sh (.int most), .no]= .nx [.sh (.lst ks), .sh (.int kind), .sh (.int most),a3]:=by
   unfold g_1;rw [hr];exact e
  rw [a_9 t1];rfl
theorem z_1(w:Nat)(h:w≤1000):j_8 [.int (w:Int)]= .ok (.sh (.int (2 ^ w))):=by
 obtain⟨Δ',e,a2,rfl⟩:=v_1 (gV 2) ai_1 (fun k Δ=>∃a2,Δ= [.sh (.int (w:Int)), .sh (.int (2 ^ k)),a2]) (n:=w) (lo:=0) (Δ:= [.sh (.int (w:Int)), .sh (.int 1), .no]) ⟨.no,rfl⟩ (fun k Δ hk hI=>by
  obtain⟨a2,rfl⟩:=hI;refine⟨_,rfl, [.sh (.int (w:Int)), .sh (.int (2 ^ (k + 1))), .sh (.int (0 + (k:Int)))], .inl ?_,_,rfl⟩
  simp_arith [ai_1,evs,e_0 (ac_8 (show(-18446744073709551616:Int) < 2 by decide) (by decide))]
  rw [Int.pow_succ])
 have hw:((w:Int)).toNat=w:=by omega
 simp_arith [j_8,bx_8,evs,g_1,r_3 (show(-4611686018427387903:Int)≤w by omega) (by omega),hw,e]
theorem dl_7(r:Int):ci_5 [.int (r % 2)]= .ok (.sh (.str (mkS [48 + (r % 2).toNat]))):=by
 have:r % 2=0∨r % 2=1:=by omega
 rcases this with h|h <;> rw [h] <;> rfl
theorem dz_4(n:Int)(w k:Nat)(r:Int)(zm:List Nat)(hk:k < w)(h:wr (w - k) r zm=wr w n []):wr (w - (k + 1)) (r / 2) ((48 + (r % 2).toNat)::zm)=wr w n []:=by
 rw [←h,show w - k=(w - (k + 1)) + 1 by omega];rfl
theorem an_0(n:Int)(w:Nat)(h:w≤1000):j_9 [.int n, .int (w:Int)]= .ok (.sh (.str (mkS (wr w n [])))):=by
 obtain⟨Δ',e,r,zm,a4,rfl,hw,hl⟩:=v_1 (gV 4) q_0 (fun k Δ=>∃(r:Int) (zm:List Nat) (a4:Sl),Δ= [.sh (.int n), .sh (.int (w:Int)), .sh (.str (mkS zm)), .sh (.int r),a4]∧wr (w - k) r zm=wr w n []∧zm.length=k) (n:=w) (lo:=0)
  (Δ:= [.sh (.int n), .sh (.int (w:Int)), .sh (.str ""), .sh (.int n), .no]) ⟨n, [], .no,rfl,rfl,rfl⟩ (fun k Δ hk hI=>by
  obtain⟨r,zm,a4,rfl,hw,hl⟩:=hI;refine⟨_,rfl, [.sh (.int n), .sh (.int (w:Int)), .sh (.str (mkS ((48 + (r % 2).toNat)::zm))), .sh (.int (r / 2)), .sh (.int (0 + (k:Int)))], .inl ?_,r / 2,_,_,rfl,dz_4 n w k r zm hk hw,by simp [hl]⟩;have hc:(mkS [48 + (r % 2).toNat]).length + (mkS zm).length≤16777216:=by rw [x_2,x_2];simp;omega
  simp_arith [q_0,evs,f_3 (show(0:Int) < 2 by decide),dl_7,cy_6 hc,ck_8,m_4 (show(0:Int) < 2 by decide) (by decide)])
 have ew:((w:Int)).toNat=w:=by omega
 have e2:zm=wr w n []:=by rw [←hw,Nat.sub_self];rfl
 simp_arith [j_9,y_7,evs,g_1,r_3 (show(-4611686018427387903:Int)≤w by omega) (by omega),ew,e,e2]
theorem ba_3(x:Str)(hx:x.length≤100000):p_0 [.str x]= .ok (.sh (.int (rd x.cps.toList 0))):=by
 obtain⟨Δ',e,a2,rfl⟩:=f_6 (gV 2) u_4 (fun k Δ=>∃a2,Δ= [.sh (.str x), .sh (.int (rd (x.cps.toList.take k) 0)),a2]) (ds:=q_3 x) (Δ:= [.sh (.str x), .sh (.int 0), .no]) ⟨.no,rfl⟩ (fun k d Δ hk hI=>by
  obtain⟨a2,rfl⟩:=hI;unfold q_3 at hk;rw [List.getElem?_map] at hk;cases q:x.cps.toList[k]? with
  |none=>rw [q] at hk;cases hk
  |some c=>
   rw [q] at hk;cases hk;have tk:x.cps.toList.take (k + 1)=x.cps.toList.take k ++ [c]:=by rw [List.take_add_one,q];rfl
   have hs:decide ((⟨#[c]⟩:Str)= "1")=decide (c=49):=by
    by_cases hc:c=49
    ·subst hc;rfl
    ·rw [decide_eq_false hc];refine decide_eq_false fun z=>hc ?_;have:(⟨#[c]⟩:Str).cps.toList=("1" :Str).cps.toList:=by rw [z]
     have: [c]= [49]:=this;simpa using this
   refine⟨_,rfl, [.sh (.str x), .sh (.int (rd (x.cps.toList.take (k + 1)) 0)), .sh (.str ⟨#[c]⟩)], .inl ?_,_,rfl⟩;rw [tk,du_0]
   simp_arith [u_4,evs,e_0 (i_6 (show(-18446744073709551616:Int) < 2 by decide) (by decide)),dj_5,hs]
   by_cases hc:c=49
   ·subst hc;simp_arith [evs,e_5];rfl
   ·simp_arith [hc,evs,e_5]
    simp [rd,hc])
 have el:(q_3 x).length=x.cps.toList.length:=by unfold q_3;rw [List.length_map]
 rw [el,List.take_length] at e
 simp_arith [p_0,ag_6,evs,g_1,e]
theorem bz_3(w:Nat):∀ns:List Int,((ns.map fun n=>wr w n []).flatten).length=w * ns.length
 | []=>by simp
 |n::ns=>by
  rw [List.map_cons,List.flatten_cons,List.length_append,bz_3 w ns,ai_7,List.length_cons,Nat.mul_succ];simp;omega
def wrD(w:Nat):D→D
 | .int n=> .str (mkS (wr w n []))
 |d=>d
theorem bq_0(ns:List Int)(w:Nat)(h1:w≤1000)(h2:ns.length≤10000):ar_1 (.str "") [.lst (ns.map ((wrD w) ∘ D.int))]= .ok (.sh (.str (mkS ((ns.map fun n=>wr w n []).flatten)))):=by
 have hj:=cz_4 (fun n=>mkS (wr w n [])) ns (by
  rw [List.map_map];have:(ns.map ((fun x=>Str.length x) ∘ fun n=>mkS (wr w n [])))=ns.map fun _=>w:=by
   apply List.map_congr_left;intro n _;show(mkS (wr w n [])).length=w;rw [x_2,ai_7];rfl
  rw [this];simp only [List.map_const',List.sum_replicate_nat];have:=Nat.mul_le_mul h2 h1;omega)
 have hj':ar_1 (.str "") [.lst (ns.map ((wrD w) ∘ D.int))]= .ok (.sh (.str (mkS ((ns.map fun n=>wr w n []).flatten)))):=by
  refine Eq.trans (show _=ar_1 (.str "") [.lst (ns.map fun n=> .str (mkS (wr w n [])))] from rfl) (hj.trans ?_)
  congr 3
  apply cj_7;rw [cz_3,n_4,List.map_map]
  congr 1
 exact hj'
theorem bz_4{z m:Int}(h0:0≤z)(h1:z < m):i_7 [.int z, .int m]= .ok (.sh (.bl true)):=by
 simp_arith [i_7,ai_2,evs,ah_4,cj_9,ar_5,h0,h1]
theorem cg_0(ns:List Int)(w:Nat)(h1:w≤1000)(h2:ns.length≤10000)(hn:∀n∈ns,0≤n∧n < 2 ^ w):
  y_8 [.lst (ns.map .int), .int (w:Int)]= .ok (.sh (.str (mkS ((ns.map fun n=>wr w n []).flatten)))):=by
 obtain⟨Δ',e,a3,a4,rfl⟩:=f_6 (gV2 3 4) ad_6 (fun k Δ=>∃a3 a4,Δ= [.sh (.lst (ns.map .int)), .sh (.int (w:Int)), .sh (.int (2 ^ w)),a3,a4]) (ds:=n_1 0 (ns.map .int))
  (Δ:= [.sh (.lst (ns.map .int)), .sh (.int (w:Int)), .sh (.int (2 ^ w)), .no, .no]) ⟨.no, .no,rfl⟩ (fun k d Δ hk hI=>by
  obtain⟨a3,a4,rfl⟩:=hI;obtain⟨d',e1,rfl⟩:=n_8 hk;rw [List.getElem?_map] at e1;cases q:ns[k]? with
  |none=>rw [q] at e1;cases e1
  |some n=>
   rw [q] at e1;cases e1;obtain⟨b1,b2⟩:=hn n (List.mem_of_getElem? q);refine⟨_,rfl, [.sh (.lst (ns.map .int)), .sh (.int (w:Int)), .sh (.int (2 ^ w)), .sh (.int ((0 + k:Nat):Int)), .sh (.int n)], .inl ?_,_,_,rfl⟩
   simp_arith [ad_6,evs,bz_4 b1 b2])
 have ec:=ac_9 (fg:=gC 5) (f:=x_1) (δ:= [some (.lst (ns.map .int)),some (.int (w:Int)),some (.int (2 ^ w)),a3.any,a4.any,none]) (wrD w) (ns.map .int) (fun d hd=>by
  obtain⟨n,_,rfl⟩:=List.mem_map.mp hd;exact⟨_, .sh (.str (mkS (wr w n []))),rfl,by simp_arith [x_1,evs,an_0 n w h1],rfl⟩)
 rw [List.map_map] at ec;have ec':=g_4 (m:=1) (fi:=iOf (eVar 0)) (fg:=gC 5) (p:=fun _=> .ok true) (f:=x_1) (δ:= [some (.lst (ns.map .int)),some (.int (w:Int)),some (.int (2 ^ w)),a3.any,a4.any]) (by simp_arith [evs]) (by rw [List.length_map];omega) ec;have hj':=bq_0 ns w h1 h2
 simp_arith [y_8,bi_2,evs,z_1 w h1,g_1,s_3,ao_6,e,ec',hj',beq_self_eq_true]
theorem dc_6{c:Nat}(h:bit c):((!decide ((⟨#[c]⟩:Str)= "0")) && (!decide ((⟨#[c]⟩:Str)= "1")))=false:=by
 rcases h with rfl|rfl <;> rfl
theorem bq_1(x:Str)(w m:Nat)(h1:1≤w)(hx:x.length=w * m)(hx2:x.length≤100000)(hb:∀c∈x.cps.toList,bit c):t_7 [.str x, .int (w:Int)]= .ok (.sh .non):=by
 obtain⟨Δ',e,a3,a4,rfl⟩:=f_6 (gV2 2 3) y_1 (fun k Δ=>∃a3 a4,Δ= [.sh (.str x), .sh (.int (w:Int)),a3,a4]) (ds:=n_1 0 (q_3 x))
  (Δ:= [.sh (.str x), .sh (.int (w:Int)), .no, .no]) ⟨.no, .no,rfl⟩ (fun k d Δ hk hI=>by
  obtain⟨a3,a4,rfl⟩:=hI;obtain⟨d',e1,rfl⟩:=n_8 hk;unfold q_3 at e1;rw [List.getElem?_map] at e1;cases q:x.cps.toList[k]? with
  |none=>rw [q] at e1;cases e1
  |some c=>
   rw [q] at e1;cases e1;have hs:=dc_6 (hb c (List.mem_of_getElem? q));refine⟨_,rfl, [.sh (.str x), .sh (.int (w:Int)), .sh (.int ((0 + k:Nat):Int)), .sh (.str ⟨#[c]⟩)], .inl ?_,_,_,rfl⟩
   simp_arith [y_1,evs,cj_8]
   cases e2:decide ((⟨#[c]⟩:Str)= "0") with
   |true=>simp_arith [evs]
   |false=>
    rw [e2] at hs;cases e3:decide ((⟨#[c]⟩:Str)= "1") with
    |true=>simp_arith [evs]
    |false=>rw [e3] at hs;cases hs)
 have c1:¬((w:Int) < 1):=by omega
 have c2:((x.length:Int) % (w:Int)=0):=by rw [hx];simp
 have em:o_9 [.int (x.length:Int), .int (w:Int)]= .ok (.sh (.bl true)):=by
  simp_arith [o_9,ag_5,evs,ar_5,c1,f_3 (show(0:Int) < w by omega),f_2,c2]
 simp_arith [t_7,as_5,evs,g_1,s_3,ao_6,e,ak_7 (show x.length≤16777216 by omega),em]
def y_2(l:List Nat)(w:Nat)(m:Nat):List Int:=(List.range m).map fun i=>rd ((l.drop (w * i)).take w) 0
theorem bz_5(l:List Nat)(w m:Nat):y_2 l w (m + 1)=y_2 l w m ++ [rd ((l.drop (w * m)).take w) 0]:=by
 unfold y_2;rw [List.range_succ,List.map_append];rfl
theorem bq_2(x:Str)(w m:Nat)(h1:1≤w)(hx:x.length=w * m)(hx2:x.length≤100000)(hm:m < 2999)(hb:∀c∈x.cps.toList,bit c):
  t_8 [.str x, .int (w:Int)]= .ok (.ow (.lst ((y_2 x.cps.toList w m).map .int))):=by
 have lw:=ce_3 (js:= [0,3]) (p:=p_1) (g:=t_5) (fun i=> [.sh (.str x), .sh (.int (w:Int)), .ow (.lst ((y_2 x.cps.toList w i).map .int)), .sh (.int ((w * i:Nat):Int))]) (m:=m) (fuel:=3000) (by omega) (fun i hi=>by
  have hlt:w * i + w≤x.length:=by
   rw [hx];have:=Nat.mul_le_mul_left w (show i + 1≤m by omega);rw [Nat.mul_succ] at this;exact this
  have c1:((w * i:Nat):Int) < (x.length:Int):=by omega
  have sl:=cp_8 x (w * i) (w * i + w) (by omega) hlt;have ew:w * i + w - w * i=w:=by omega
  rw [ew] at sl;have nr:=ba_3 (Txt.slice x (some ((w * i:Nat):Int)) (some ((w * i + w:Nat):Int))) (by
   rw [av_7,sl,List.length_take,List.length_drop];omega)
  rw [sl] at nr;have ei:((w * i:Nat):Int) + (w:Int)=((w * i + w:Nat):Int):=by omega
  have hl2:((y_2 x.cps.toList w i).map D.int).length < 16777216:=by
   unfold y_2;rw [List.length_map,List.length_map,List.length_range];omega
  refine⟨by simp_arith [p_1,evs,ak_7 (show x.length≤16777216 by omega),ar_5,c1], ?_⟩
  simp_arith [t_5,evs,sApp,hl2,e_5,ei,bm_2,show x.length≤16777216 by omega,nr]
  rw [bz_5,List.map_append,Nat.mul_succ];rfl) (by
  have c1:¬((w * m:Nat):Int) < (x.length:Int):=by omega
  simp_arith [p_1,evs,ak_7 (show x.length≤16777216 by omega),ar_5,c1])
 have lw':i_4 [0,3] p_1 t_5 3000 [.sh (.str x), .sh (.int (w:Int)), .ow (.lst []), .sh (.int 0)]= .nx [.sh (.str x), .sh (.int (w:Int)), .ow (.lst ((y_2 x.cps.toList w m).map .int)), .sh (.int ((w * m:Nat):Int))]:=lw
 simp_arith [t_8,as_6,evs,bq_1 x w m h1 hx hx2 hb,lw']
def f_5(s kind part m:Int)(T:List Int):D:= .obj "Table" ["by_salt", "kind", "part", "modulus", "listed"] [.int s, .int kind, .int part, .int m, .lst (T.map .int)]
theorem ba_4(a b c d e:D):aa_5 [a,b,c,d,e]= .ok (["by_salt", "kind", "part", "modulus", "listed"], [a,b,c,d,e]):=by
 kernel_rfl
theorem bz_6{ks:List D}{s kind:Int}(h:Ks ks s kind)(hs:f_8 [.lst ks, .int s, .int kind]= .ok (.sh (.bl true)))(m:Int)(hm:0 < m)(w:List Int)(hw:w.length=ks.length)(hb:∀i,i < w.length→0≤w.getD i 0∧w.getD i 0 < m):
  ∃T:List Int,(T.length:Int)=kind * d_0 (ks.length:Int) kind∧(∀t∈T,0≤t∧t < m)∧(∀i d,ks[i]? =some d→f_4 T (c_2 d s kind (d_0 (ks.length:Int) kind)) % m=w.getD i 0)∧
   k_2 [.lst ks, .int s, .int kind, .int m, .lst (w.map .int)]= .ok (.sh (f_5 s kind (d_0 (ks.length:Int) kind) m T)):=by
 obtain⟨p1,_,p3,p4⟩:=af_0 (ks.length:Int) kind (by have:=h.h1;omega) (by have:=h.h2;omega) h.kd;obtain⟨b,eb,hb2⟩:=am_9 h;rw [hs] at eb;have hbt:b=true:=by
  injection eb with eb;injection eb with eb;injection eb with eb;exact eb.symm
 obtain⟨ord,hall,⟨st,hP⟩,ef⟩:=hb2 hbt;have hkd:=h.kd;generalize hpart:d_0 (ks.length:Int) kind=part at *
 have hsz:0≤kind * part:=Int.mul_nonneg (by omega) (by omega);have gp:kind * part≤3 * 2000:=Int.mul_le_mul (by omega) p4 (by omega) (by omega);obtain⟨size,hsize⟩:∃n:Nat,(n:Int)=kind * part:=⟨(kind * part).toNat,by omega⟩;have dk:∀n ps,(g_8 ks s kind)[n]? =some ps→∃d,ks[n]? =some d∧ps=c_2 d s kind part:=fun n ps e=>by
  unfold g_8 at e;rw [List.getElem?_map] at e;obtain⟨d,e1,e2⟩:=Option.map_eq_some_iff.mp e;exact⟨d,e1,by rw [←e2,hpart]⟩
 have hok:∀x∈ord,∃ps,(g_8 ks s kind)[x.1]? =some ps∧ps.Nodup∧x.2∈ps∧(∀p∈ps,p < size)∧ps.length≤1000∧x.1 < ks.length:=fun x hx=>by
  obtain⟨ps,e1,e2⟩:=hP.ok x hx;obtain⟨d,e3,rfl⟩:=dk x.1 ps e1;refine⟨_,e1,cf_8 d s kind part p3,e2,fun p hp=> ?_, ?_,(List.getElem?_eq_some_iff.mp e3).1⟩
  ·have:=ai_8 d s kind part p3 (by omega) p hp;omega
  ·rw [x_4];omega
 have e1:=cf_7 (g_8 ks s kind) w m size ord hm (by omega) fun x hx=>by
  obtain⟨ps,k1,k2,k3,k4,k5,k6⟩:=hok x hx;exact⟨ps,k1,k4,k5,k4 _ k3,by omega⟩
 obtain⟨q1,_⟩:=bj_1 (E:=g_8 ks s kind) (w:=w) (size:=size) hm ord (fun x hx=>by
  obtain⟨ps,k1,k2,k3,k4,k5,k6⟩:=hok x hx;exact⟨ps,k1,k2,k3,k4 _ k3,hb x.1 (by omega)⟩) hP.pw
 refine⟨h_2 (g_8 ks s kind) w m size ord.reverse,by rw [aq_0];exact hsize,fun t ht=> ?_,fun i d hd=> ?_, ?_⟩
 ·obtain⟨p,hp,rfl⟩:=List.getElem_of_mem ht;have:=dc_4 (g_8 ks s kind) w hm size ord.reverse p;unfold at0 at this;rw [List.getD_eq_getElem?_getD,List.getElem?_eq_getElem hp] at this;exact this
 ·have hi:i < ks.length:=(List.getElem?_eq_some_iff.mp hd).1;obtain⟨x,hx,rfl⟩:=List.mem_map.mp (hall i hi);have:=q1 x hx;have hg:(g_8 ks s kind).getD x.1 []=c_2 d s kind part:=by
   unfold g_8;rw [List.getD_eq_getElem?_getD,List.getElem?_map,hd,hpart];rfl
  rw [hg] at this;exact this
 ·have ee:=bz_2 h.k h.nd h.h1 h.h2 s kind h.s0 h.s1 h.kd;rw [bj_3 ks s kind (by rw [hpart];exact p3)] at ee;have mm:g_0 (.int kind) (.int part)= .ok (.sh (.int (size:Int))):=by
   rw [hsize];exact e_0 (i_6 (by omega) (by omega))
  have hx:ixD (.tup [.lst (k_1 ord), .lst []]) (.int 0)= .ok (.sh (.lst (k_1 ord))):=ck_0 (am_4 (i:=0) rfl);unfold f_5
  simp_arith [k_2,as_1,evs,m_7,p1,ee,ef,dc_5,hx,mm,e1,ab_3,ba_4]
section
variable(s kind part m:Int)(T:List Int)(r:List (Option D))
theorem dc_7:h_7 ["Table"] "by_salt" (eVar 0) (some (f_5 s kind part m T)::r)= .ok (.sh (.int s)):=by kernel_rfl
theorem dc_8:h_7 ["Table"] "kind" (eVar 0) (some (f_5 s kind part m T)::r)= .ok (.sh (.int kind)):=by kernel_rfl
theorem dc_9:h_7 ["Table"] "part" (eVar 0) (some (f_5 s kind part m T)::r)= .ok (.sh (.int part)):=by kernel_rfl
theorem bz_7:h_7 ["Table"] "modulus" (eVar 0) (some (f_5 s kind part m T)::r)= .ok (.sh (.int m)):=by kernel_rfl
theorem cg_1:h_7 ["Table"] "listed" (eVar 0) (some (f_5 s kind part m T)::r)= .ok (.sh (.lst (T.map .int))):=by kernel_rfl
theorem cg_2{d:D}{w:W}(h:f_9 [d, .int s, .int kind, .int part]= .ok w):d_6 [f_5 s kind part m T,d]= .ok w:=by
 simp_arith [d_6,ad_4,evs,dc_7,dc_8,dc_9,h]
end
theorem cr_1:(["by_salt", "kind", "part", "modulus", "listed"]:List Str).contains "places" =false:=by decide +kernel
theorem du_4(F:List D→R W):([("Table",F)]:List (Str×(List D→R W))).lookup ("Table" :Str)=some F:=by kernel_rfl
theorem ba_5{s kind part m:Int}{T:List Int}{d:D}{w:W}(h:f_9 [d, .int s, .int kind, .int part]= .ok w)(fo:FE)(δ:DE)(ho:fo δ= .ok (.sh (f_5 s kind part m T)))(fa:FA)(ha:fa δ= .ok [d]):d_2 "places" 1 [("Table",d_6)] fo fa δ= .ok w:=by
 have t:=cg_2 s kind part m T h;unfold f_5 at t ho;simp only [d_2,ho,R.bind_ok,W.d_sh,cr_1,Bool.false_eq_true,if_false,du_4,ha,List.length_cons,List.length_nil,Nat.reduceAdd,if_true,t]
theorem cr_2{s kind part m:Int}{T:List Int}{d:D}{ps:List Nat}(hm:0 < m)(h:f_9 [d, .int s, .int kind, .int part]= .ok (.sh (eT ps)))(hp:∀p∈ps,p < T.length)(hl:ps.length≤1000):b_7 [f_5 s kind part m T,d]= .ok (.sh (.int (f_4 T ps % m))):=by
 have hs:n_3 [.lst (T.map .int),eT ps, .int m]= .ok (.sh (.int (f_4 T ps % m))):=bi_9 T ps m hm hp hl;have dm:=ba_5 (m:=m) (T:=T) h (eVar 0) [some (f_5 s kind part m T),some d] rfl (aCons (eVar 1) aNil) rfl;unfold b_7;refine r_4 ?_;unfold ag_4;have e:eFn 3 n_3 (aCons (h_7 ["Table"] "listed" (eVar 0)) (aCons (d_2 "places" 1 [("Table",d_6)] (eVar 0) (aCons (eVar 1) aNil)) (aCons (h_7 ["Table"] "modulus" (eVar 0)) aNil))) [some (f_5 s kind part m T),some d]= .ok (.sh (.int (f_4 T ps % m))):=by
  simp only [eFn,aCons,aNil,cg_1,dm,bz_7,R.bind_ok,W.d_sh,List.length_cons,List.length_nil,Nat.reduceAdd,if_true,hs]
 show(match eFn 3 n_3 _ (vall [.sh (f_5 s kind part m T), .sh d]) with| .ok w=>Fl.rt w| .ex _=>_| .no=> .no)=_;have e':eFn 3 n_3 (aCons (h_7 ["Table"] "listed" (eVar 0)) (aCons (d_2 "places" 1 [("Table",d_6)] (eVar 0) (aCons (eVar 1) aNil)) (aCons (h_7 ["Table"] "modulus" (eVar 0)) aNil))) (vall [.sh (f_5 s kind part m T), .sh d])= .ok (.sh (.int (f_4 T ps % m))):=e;rw [e']
theorem af_4{Δ:SE}{i:Nat}{cs:List Str}{f c:Str}{js:List Nat}{fe:FE}{ns:List Str}{ts:List Tn}{w:W}(hg:gsome js Δ=Δ)(h0:Δ[i]? =some (.lt (.obj c ns ts)))(hc:cs.contains c=true∧ns.contains f=false∧ns.length < 1000)(he:fe (vsh Δ)= .ok w):
  l_3 i cs f js fe Δ= .nx (Δ.set i (.lt (.obj c (ns ++ [f]) (ts ++ [.sh w.d])))):=by
 unfold l_3;rw [hg];simp only [h0,he,if_pos hc]
theorem ba_6{vs:List Int}{n:Nat}{m:Int}(hl:vs.length=n)(hn:n≤1000)(hb:∀v∈vs,0≤v∧v < m):h_1 [.lst (vs.map .int), .int (n:Int), .int m]= .ok (.sh .non):=by
 obtain⟨Δ',e,a3,a4,rfl⟩:=f_6 (gV2 3 4) l_5 (fun k Δ=>∃a3 a4,Δ= [.sh (.lst (vs.map .int)), .sh (.int (n:Int)), .sh (.int m),a3,a4]) (ds:=n_1 0 (vs.map .int))
  (Δ:= [.sh (.lst (vs.map .int)), .sh (.int (n:Int)), .sh (.int m), .no, .no]) ⟨_,_,rfl⟩ (fun k d0 Δ hd hI=>by
   obtain⟨a3,a4,rfl⟩:=hI;obtain⟨d,e1,rfl⟩:=n_8 hd;rw [List.getElem?_map] at e1;obtain⟨v,e2,rfl⟩:=Option.map_eq_some_iff.mp e1;have hk:k < vs.length:=(List.getElem?_eq_some_iff.mp e2).1;have hv:=hb v (List.mem_of_getElem? e2);have c1:¬(n:Int)≤(k:Int):=by omega
   refine⟨[.sh (.lst (vs.map .int)), .sh (.int (n:Int)), .sh (.int m), .sh (.int ((0 + k:Nat):Int)), .sh (.int v)],rfl, [.sh (.lst (vs.map .int)), .sh (.int (n:Int)), .sh (.int m), .sh (.int ((0 + k:Nat):Int)), .sh (.int v)], .inl ?_,_,_,rfl⟩
   simp_arith [l_5,evs,dn_1,c1,bz_4 hv.1 hv.2])
 have c2:¬(n:Int) < (n:Int):=by omega
 have hv:s_3 (eVar 0) (vsh [.sh (.lst (vs.map .int)), .sh (.int (n:Int)), .sh (.int m), .no, .no])= .ok (n_1 0 (vs.map .int)):=by
  simp_arith [s_3,evs,ao_6]
 have v4:g_1 [0] (s_3 (eVar 0)) (gV2 3 4) l_5 (start3 5 [.lst (vs.map .int), .int (n:Int), .int m])= .nx [.sh (.lst (vs.map .int)), .sh (.int (n:Int)), .sh (.int m),a3,a4]:=by
  show g_1 [0] (s_3 (eVar 0)) (gV2 3 4) l_5 [.sh (.lst (vs.map .int)), .sh (.int (n:Int)), .sh (.int m), .no, .no]=_;unfold g_1;rw [hv];exact e
 unfold h_1 bodyD ag_3;rw [a_9 v4]
 simp_arith [evs,m_7,List.length_map,hl,ar_5,c2]
def kptO(n width:Int)(t:D):D:= .obj "Kept" ["how_many", "width", "own_table"] [.int n, .int width,t]
theorem dd_0{ks:List D}{kind most:Int}(h:Ks ks 0 kind)(w:Nat)(hw:w≤100){vs:List Int}(hl:vs.length=ks.length)(hb:∀v∈vs,0≤v∧v < 2 ^ w)(g:FS):
  sSeq (sSet 6 [3] (eFn 1 j_8 (aCons (eVar 3) aNil))) (sSeq (l_3 0 ["Kept", "Marked", "PeeledAgain", "OrderedAgain", "KeptAgain", "MarkedAgain"] "how_many" [1] (eFn 1 h_0 (aCons (eVar 1) aNil))) (sSeq (sExpr [1,2,6] (eFn 3 h_1 (aCons (eVar 2) (aCons (eCall h_6 (aCons (eVar 1) aNil)) (aCons (eVar 6) aNil))))) g)) (v_7 8 "Kept" [.lst ks, .lst (vs.map .int), .int (w:Int), .int kind, .int most])=
   g [.lt (.obj "Kept" ["how_many"] [.sh (.int (ks.length:Int))]), .sh (.lst ks), .sh (.lst (vs.map .int)), .sh (.int (w:Int)), .sh (.int kind), .sh (.int most), .sh (.int (2 ^ w)), .no]:=by
 have h2:=h.h2;have q1:sSet 6 [3] (eFn 1 j_8 (aCons (eVar 3) aNil)) (v_7 8 "Kept" [.lst ks, .lst (vs.map .int), .int (w:Int), .int kind, .int most])= .nx [.lt (.obj "Kept" [] []), .sh (.lst ks), .sh (.lst (vs.map .int)), .sh (.int (w:Int)), .sh (.int kind), .sh (.int most), .sh (.int (2 ^ w)), .no]:=by
  have:eFn 1 j_8 (aCons (eVar 3) aNil) (vsh (v_7 8 "Kept" [.lst ks, .lst (vs.map .int), .int (w:Int), .int kind, .int most]))= .ok (.sh (.int (2 ^ w))):=z_1 w (by omega);unfold sSet;rw [this];rfl
 have q2:l_3 0 ["Kept", "Marked", "PeeledAgain", "OrderedAgain", "KeptAgain", "MarkedAgain"] "how_many" [1] (eFn 1 h_0 (aCons (eVar 1) aNil)) [.lt (.obj "Kept" [] []), .sh (.lst ks), .sh (.lst (vs.map .int)), .sh (.int (w:Int)), .sh (.int kind), .sh (.int most), .sh (.int (2 ^ w)), .no]= .nx [.lt (.obj "Kept" ["how_many"] [.sh (.int (ks.length:Int))]), .sh (.lst ks), .sh (.lst (vs.map .int)), .sh (.int (w:Int)), .sh (.int kind), .sh (.int most), .sh (.int (2 ^ w)), .no]:=by
  refine af_4 (w:= .sh (.int (ks.length:Int))) (c:= "Kept") (ns:= []) (ts:= []) rfl rfl ?_ (bp_6 h.k h.nd h.h1 h.h2);decide +kernel
 have q3:sExpr [1,2,6] (eFn 3 h_1 (aCons (eVar 2) (aCons (eCall h_6 (aCons (eVar 1) aNil)) (aCons (eVar 6) aNil)))) [.lt (.obj "Kept" ["how_many"] [.sh (.int (ks.length:Int))]), .sh (.lst ks), .sh (.lst (vs.map .int)), .sh (.int (w:Int)), .sh (.int kind), .sh (.int most), .sh (.int (2 ^ w)), .no]= .nx [.lt (.obj "Kept" ["how_many"] [.sh (.int (ks.length:Int))]), .sh (.lst ks), .sh (.lst (vs.map .int)), .sh (.int (w:Int)), .sh (.int kind), .sh (.int most), .sh (.int (2 ^ w)), .no]:=by
  have:eFn 3 h_1 (aCons (eVar 2) (aCons (eCall h_6 (aCons (eVar 1) aNil)) (aCons (eVar 6) aNil))) (vall [.lt (.obj "Kept" ["how_many"] [.sh (.int (ks.length:Int))]), .sh (.lst ks), .sh (.lst (vs.map .int)), .sh (.int (w:Int)), .sh (.int kind), .sh (.int most), .sh (.int (2 ^ w)), .no])= .ok (.sh .non):=ba_6 (n:=ks.length) hl (by omega) hb;unfold sExpr;rw [this]
 rw [a_9 q1,a_9 q2,a_9 q3]
theorem dl_9{ks:List D}{kind most:Int}(h:Ks ks 0 kind)(w:Nat)(hw:w≤100){vs:List Int}(hl:vs.length=ks.length)(hb:∀v∈vs,0≤v∧v < 2 ^ w)(e:c_0 [.lst ks, .int kind, .int most]= .ex xNoTry):aa_6 [.lst ks, .lst (vs.map .int), .int (w:Int), .int kind, .int most]= .ex xNoTry:=by
 unfold aa_6 ac_7 u_3;rw [dd_0 h w hw hl hb];have t1:sSet 7 [1,4,5] (eFn 3 c_0 (aCons (eVar 1) (aCons (eVar 4) (aCons (eVar 5) aNil)))) [.lt (.obj "Kept" ["how_many"] [.sh (.int (ks.length:Int))]), .sh (.lst ks), .sh (.lst (vs.map .int)), .sh (.int (w:Int)), .sh (.int kind), .sh (.int most), .sh (.int (2 ^ w)), .no]= .ex xNoTry [.lt (.obj "Kept" ["how_many"] [.sh (.int (ks.length:Int))]), .sh (.lst ks), .sh (.lst (vs.map .int)), .sh (.int (w:Int)), .sh (.int kind), .sh (.int most), .sh (.int (2 ^ w)), .no]:=by
  have:eFn 3 c_0 (aCons (eVar 1) (aCons (eVar 4) (aCons (eVar 5) aNil))) (vsh [.lt (.obj "Kept" ["how_many"] [.sh (.int (ks.length:Int))]), .sh (.lst ks), .sh (.lst (vs.map .int)), .sh (.int (w:Int)), .sh (.int kind), .sh (.int most), .sh (.int (2 ^ w)), .no])= .ex xNoTry:=e;unfold sSet;rw [this]
 unfold sSeq;rw [t1]
theorem bj_5{ks:List D}{kind most:Int}(h:Ks ks 0 kind)(w:Nat)(hw:w≤100){vs:List Int}(hl:vs.length=ks.length)(hb:∀v∈vs,0≤v∧v < 2 ^ w){s:Nat}(hs:s≤1000)(e:c_0 [.lst ks, .int kind, .int most]= .ok (.sh (.int (s:Int))))(e2:f_8 [.lst ks, .int (s:Int), .int kind]= .ok (.sh (.bl true))):
  ∃T:List Int,(T.length:Int)=kind * d_0 (ks.length:Int) kind∧(∀t∈T,0≤t∧t < 2 ^ w)∧(∀(i:Nat) (d:D),ks[i]? =some d→f_4 T (c_2 d (s:Int) kind (d_0 (ks.length:Int) kind)) % 2 ^ w=vs.getD i 0)∧
   aa_6 [.lst ks, .lst (vs.map .int), .int (w:Int), .int kind, .int most]= .ok (["how_many", "width", "own_table"], [.int (ks.length:Int), .int (w:Int),f_5 (s:Int) kind (d_0 (ks.length:Int) kind) (2 ^ w) T]):=by
 have pos:(0:Int) < 2 ^ w:=Int.pow_pos (by decide);have h2:=h.h2;obtain⟨T,t1,t2,t3,t4⟩:=bz_6 (s:=(s:Int)) ⟨h.k,h.nd,h.h1,h.h2,by omega,by omega,h.kd⟩ e2 (2 ^ w) pos vs hl (fun i hi=>by
  rw [List.getD_eq_getElem?_getD,List.getElem?_eq_getElem hi];exact hb _ (List.getElem_mem hi))
 refine⟨T,t1,t2,t3, ?_⟩;unfold aa_6 ac_7 u_3;rw [dd_0 h w hw hl hb];have q4:sSet 7 [1,4,5] (eFn 3 c_0 (aCons (eVar 1) (aCons (eVar 4) (aCons (eVar 5) aNil)))) [.lt (.obj "Kept" ["how_many"] [.sh (.int (ks.length:Int))]), .sh (.lst ks), .sh (.lst (vs.map .int)), .sh (.int (w:Int)), .sh (.int kind), .sh (.int most), .sh (.int (2 ^ w)), .no]= .nx [.lt (.obj "Kept" ["how_many"] [.sh (.int (ks.length:Int))]), .sh (.lst ks), .sh (.lst (vs.map .int)), .sh (.int (w:Int)), .sh (.int kind), .sh (.int most), .sh (.int (2 ^ w)), .sh (.int (s:Int))]:=by
  have:eFn 3 c_0 (aCons (eVar 1) (aCons (eVar 4) (aCons (eVar 5) aNil))) (vsh [.lt (.obj "Kept" ["how_many"] [.sh (.int (ks.length:Int))]), .sh (.lst ks), .sh (.lst (vs.map .int)), .sh (.int (w:Int)), .sh (.int kind), .sh (.int most), .sh (.int (2 ^ w)), .no])= .ok (.sh (.int (s:Int))):=e;unfold sSet;rw [this];rfl
 have q5:l_3 0 ["Kept", "Marked", "KeptAgain", "MarkedAgain"] "width" [3] (eVar 3) [.lt (.obj "Kept" ["how_many"] [.sh (.int (ks.length:Int))]), .sh (.lst ks), .sh (.lst (vs.map .int)), .sh (.int (w:Int)), .sh (.int kind), .sh (.int most), .sh (.int (2 ^ w)), .sh (.int (s:Int))]= .nx [.lt (.obj "Kept" ["how_many", "width"] [.sh (.int (ks.length:Int)), .sh (.int (w:Int))]), .sh (.lst ks), .sh (.lst (vs.map .int)), .sh (.int (w:Int)), .sh (.int kind), .sh (.int most), .sh (.int (2 ^ w)), .sh (.int (s:Int))]:=by
  refine af_4 (w:= .sh (.int (w:Int))) (c:= "Kept") (ns:= ["how_many"]) (ts:= [.sh (.int (ks.length:Int))]) rfl rfl ?_ rfl;decide +kernel
 have q6:l_3 0 ["Kept", "Marked", "PeeledAgain", "OrderedAgain", "KeptAgain", "MarkedAgain"] "own_table" [1,2,4,6,7] (eFn 5 k_2 (aCons (eVar 1) (aCons (eVar 7) (aCons (eVar 4) (aCons (eVar 6) (aCons (eVar 2) aNil)))))) [.lt (.obj "Kept" ["how_many", "width"] [.sh (.int (ks.length:Int)), .sh (.int (w:Int))]), .sh (.lst ks), .sh (.lst (vs.map .int)), .sh (.int (w:Int)), .sh (.int kind), .sh (.int most), .sh (.int (2 ^ w)), .sh (.int (s:Int))]=
   .nx [.lt (.obj "Kept" ["how_many", "width", "own_table"] [.sh (.int (ks.length:Int)), .sh (.int (w:Int)), .sh (f_5 (s:Int) kind (d_0 (ks.length:Int) kind) (2 ^ w) T)]), .sh (.lst ks), .sh (.lst (vs.map .int)), .sh (.int (w:Int)), .sh (.int kind), .sh (.int most), .sh (.int (2 ^ w)), .sh (.int (s:Int))]:=by
  refine af_4 (w:= .sh (f_5 (s:Int) kind (d_0 (ks.length:Int) kind) (2 ^ w) T)) (c:= "Kept") (ns:= ["how_many", "width"]) (ts:= [.sh (.int (ks.length:Int)), .sh (.int (w:Int))]) rfl rfl (by decide +kernel) t4
 rw [a_9 q4,a_9 q5,q6];simp only [List.getElem?_cons_zero,if_true,unT,Option.map_some]
theorem bq_3{d:D}(h:isKey d)(w:Nat)(hw:w≤100):aa_7 [d, .int (w:Int)]= .ok (.sh (.int (n_5 (e_9 d) 3 (2 ^ w)))):=by
 have pos:(0:Int) < 2 ^ w:=Int.pow_pos (by decide)
 simp_arith [aa_7,da_2,evs,by_8 h,z_1 w (by omega),(am_6 (e_9 d) 3 (2 ^ w) (by decide) (by decide) pos).1]
def mrkO(n width:Int)(t:D):D:= .obj "Marked" ["how_many", "width", "own_table"] [.int n, .int width,t]
def bj_6(ks:List D)(w:Nat):List Int:=ks.map fun d=>n_5 (e_9 d) 3 (2 ^ w)
theorem cr_3{ks:List D}{kind most:Int}(w:Nat)(e:c_0 [.lst ks, .int kind, .int most]= .ex xNoTry):r_8 [.lst ks, .int (w:Int), .int kind, .int most]= .ex xNoTry:=by
 unfold r_8 ac_7;have t1:sSet 5 [1,3,4] (eFn 3 c_0 (aCons (eVar 1) (aCons (eVar 3) (aCons (eVar 4) aNil)))) (v_7 6 "Marked" [.lst ks, .int (w:Int), .int kind, .int most])= .ex xNoTry (v_7 6 "Marked" [.lst ks, .int (w:Int), .int kind, .int most]):=by
  have:eFn 3 c_0 (aCons (eVar 1) (aCons (eVar 3) (aCons (eVar 4) aNil))) (vsh (v_7 6 "Marked" [.lst ks, .int (w:Int), .int kind, .int most]))= .ex xNoTry:=e;unfold sSet;rw [this]
 unfold r_7;unfold sSeq;rw [t1]
theorem at_1{ks:List D}{kind most:Int}(h:Ks ks 0 kind)(w:Nat)(hw:w≤100){s:Nat}(hs:s≤1000)(e:c_0 [.lst ks, .int kind, .int most]= .ok (.sh (.int (s:Int))))(e2:f_8 [.lst ks, .int (s:Int), .int kind]= .ok (.sh (.bl true))):
  ∃T:List Int,(T.length:Int)=kind * d_0 (ks.length:Int) kind∧(∀t∈T,0≤t∧t < 2 ^ w)∧(∀(i:Nat) (d:D),ks[i]? =some d→f_4 T (c_2 d (s:Int) kind (d_0 (ks.length:Int) kind)) % 2 ^ w=n_5 (e_9 d) 3 (2 ^ w))∧
   r_8 [.lst ks, .int (w:Int), .int kind, .int most]= .ok (["how_many", "width", "own_table"], [.int (ks.length:Int), .int (w:Int),f_5 (s:Int) kind (d_0 (ks.length:Int) kind) (2 ^ w) T]):=by
 have pos:(0:Int) < 2 ^ w:=Int.pow_pos (by decide);have h2:=h.h2;obtain⟨T,t1,t2,t3,t4⟩:=bz_6 (s:=(s:Int)) ⟨h.k,h.nd,h.h1,h.h2,by omega,by omega,h.kd⟩ e2 (2 ^ w) pos (bj_6 ks w) (by unfold bj_6;rw [List.length_map]) (fun i hi=>by
  unfold bj_6 at hi⊢;rw [List.length_map] at hi;rw [List.getD_eq_getElem?_getD,List.getElem?_map,List.getElem?_eq_getElem hi];exact bj_2 _ _ _ pos)
 refine⟨T,t1,t2,fun i d hd=> ?_, ?_⟩
 ·rw [t3 i d hd];unfold bj_6;rw [List.getD_eq_getElem?_getD,List.getElem?_map,hd];rfl
 ·have ec:=g_4 (m:=1) (fi:=iOf (eVar 1)) (fg:=gC 6) (p:=fun _=> .ok true) (f:=j_2) (δ:= [none,some (.lst ks),some (.int (w:Int)),some (.int kind),some (.int most),some (.int (s:Int))]) (ds:=ks) (by simp_arith [evs]) (by omega)
   (ac_9 (fun d=> .int (n_5 (e_9 d) 3 (2 ^ w))) ks fun d hd=>⟨_, .sh (.int (n_5 (e_9 d) 3 (2 ^ w))),rfl,by simp_arith [j_2,evs,bq_3 (h.k d hd) w hw],rfl⟩)
  have em:(ks.map fun d=>D.int (n_5 (e_9 d) 3 (2 ^ w)))=(bj_6 ks w).map .int:=by unfold bj_6;rw [List.map_map];rfl
  rw [em] at ec;have q1:sSet 5 [1,3,4] (eFn 3 c_0 (aCons (eVar 1) (aCons (eVar 3) (aCons (eVar 4) aNil)))) (v_7 6 "Marked" [.lst ks, .int (w:Int), .int kind, .int most])= .nx [.lt (.obj "Marked" [] []), .sh (.lst ks), .sh (.int (w:Int)), .sh (.int kind), .sh (.int most), .sh (.int (s:Int))]:=by
   have:eFn 3 c_0 (aCons (eVar 1) (aCons (eVar 3) (aCons (eVar 4) aNil))) (vsh (v_7 6 "Marked" [.lst ks, .int (w:Int), .int kind, .int most]))= .ok (.sh (.int (s:Int))):=e;unfold sSet;rw [this];rfl
  have q2:l_3 0 ["Kept", "Marked", "PeeledAgain", "OrderedAgain", "KeptAgain", "MarkedAgain"] "how_many" [1] (eCall h_6 (aCons (eVar 1) aNil)) [.lt (.obj "Marked" [] []), .sh (.lst ks), .sh (.int (w:Int)), .sh (.int kind), .sh (.int most), .sh (.int (s:Int))]= .nx [.lt (.obj "Marked" ["how_many"] [.sh (.int (ks.length:Int))]), .sh (.lst ks), .sh (.int (w:Int)), .sh (.int kind), .sh (.int most), .sh (.int (s:Int))]:=
   by refine af_4 (w:= .sh (.int (ks.length:Int))) (c:= "Marked") (ns:= []) (ts:= []) rfl rfl ?_ rfl;decide +kernel
  have q3:l_3 0 ["Kept", "Marked", "KeptAgain", "MarkedAgain"] "width" [2] (eVar 2) [.lt (.obj "Marked" ["how_many"] [.sh (.int (ks.length:Int))]), .sh (.lst ks), .sh (.int (w:Int)), .sh (.int kind), .sh (.int most), .sh (.int (s:Int))]= .nx [.lt (.obj "Marked" ["how_many", "width"] [.sh (.int (ks.length:Int)), .sh (.int (w:Int))]), .sh (.lst ks), .sh (.int (w:Int)), .sh (.int kind), .sh (.int most), .sh (.int (s:Int))]:=
   by refine af_4 (w:= .sh (.int (w:Int))) (c:= "Marked") (ns:= ["how_many"]) (ts:= [.sh (.int (ks.length:Int))]) rfl rfl ?_ rfl;decide +kernel
  have q4:l_3 0 ["Kept", "Marked", "PeeledAgain", "OrderedAgain", "KeptAgain", "MarkedAgain"] "own_table" [1,2,3,5] (eFn 5 k_2 (aCons (eVar 1) (aCons (eVar 5) (aCons (eVar 3) (aCons (eFn 1 j_8 (aCons (eVar 2) aNil)) (aCons (c_1 1 (iOf (eVar 1)) (gC 6) (fun _=> .ok true) j_2) aNil)))))) [.lt (.obj "Marked" ["how_many", "width"] [.sh (.int (ks.length:Int)), .sh (.int (w:Int))]), .sh (.lst ks), .sh (.int (w:Int)), .sh (.int kind), .sh (.int most), .sh (.int (s:Int))]=
    .nx [.lt (.obj "Marked" ["how_many", "width", "own_table"] [.sh (.int (ks.length:Int)), .sh (.int (w:Int)), .sh (f_5 (s:Int) kind (d_0 (ks.length:Int) kind) (2 ^ w) T)]), .sh (.lst ks), .sh (.int (w:Int)), .sh (.int kind), .sh (.int most), .sh (.int (s:Int))]:=by
   refine af_4 (w:= .sh (f_5 (s:Int) kind (d_0 (ks.length:Int) kind) (2 ^ w) T)) (c:= "Marked") (ns:= ["how_many", "width"]) (ts:= [.sh (.int (ks.length:Int)), .sh (.int (w:Int))]) rfl rfl (by decide +kernel) ?_;have hv:vsh [.lt (.obj "Marked" ["how_many", "width"] [.sh (.int (ks.length:Int)), .sh (.int (w:Int))]), .sh (.lst ks), .sh (.int (w:Int)), .sh (.int kind), .sh (.int most), .sh (.int (s:Int))]= [none,some (.lst ks),some (.int (w:Int)),some (.int kind),some (.int most),some (.int (s:Int))]:=rfl;rw [hv];simp only [eFn,aCons,aNil,eVar,List.getElem?_cons_succ,List.getElem?_cons_zero,R.bind_ok,W.d_sh,W.d_ow,List.length_cons,List.length_nil,Nat.reduceAdd,if_true,z_1 w (by omega:w≤1000),ec,t4]
  unfold r_8 ac_7 r_7;rw [a_9 q1,a_9 q2,a_9 q3,q4];simp only [List.getElem?_cons_zero,if_true,unT,Option.map_some]
def maO(n w:Int)(t:D):D:= .obj "MarkedAgain" ["how_many", "own_table", "width"] [.int n,t, .int w]
theorem du_5(a b c:D):p_2 [a,b,c]= .ok (["how_many", "own_table", "width"], [a,b,c]):=by kernel_rfl
abbrev C8:List Str:= ["Kept", "Marked", "PeeledAgain", "OrderedAgain", "KeptAgain", "MarkedAgain"]
abbrev tbT:List (Str×(List D→R W)):= [("Marked",e_6)]
abbrev tbS:List (Str×(List D→R W)):= [("Marked",f_0)]
abbrev tbM:List (Str×(List D→R W)):= [("Marked",m_2)]
structure HH(M:D)(n s kind part m:Int)(T:List Int):Prop where
 own:∀(fo:FE) (δ:DE),fo δ= .ok (.sh M)→h_7 C8 "own_table" fo δ= .ok (.sh (f_5 s kind part m T))
 num:∀(fo:FE) (δ:DE),fo δ= .ok (.sh M)→h_7 C8 "how_many" fo δ= .ok (.sh (.int n))
 tab:∀(fo:FE) (δ:DE),fo δ= .ok (.sh M)→d_2 "table" 0 tbT fo aNil δ= .ok (.ow (.lst (T.map .int)))
 salt:∀(fo:FE) (δ:DE),fo δ= .ok (.sh M)→d_2 "salt" 0 tbS fo aNil δ= .ok (.sh (.int s))
 many:∀(fo:FE) (δ:DE),fo δ= .ok (.sh M)→d_2 "many" 0 tbM fo aNil δ= .ok (.sh (.int n))
section
variable(n s kind part m w:Int)(T:List Int)(u:Str)
theorem fldX{c f:Str}{ns:List Str}{vs:List D}{cs:List Str}{r:D}{M:D}(hM:M= .obj c ns vs)(h1:cs.contains c=true)(h2:(ns.zip vs).lookup f=some r)(fo:FE)(δ:DE)(h:fo δ= .ok (.sh M)):h_7 cs f fo δ= .ok (.sh r):=by
 subst hM;simp only [h_7,h,R.bind_ok,W.d_sh,h1,h2,if_true]
theorem metX{nm c:Str}{k:Nat}{ns:List Str}{vs:List D}{tb:List (Str×(List D→R W))}{F:List D→R W}{M:D}(hM:M= .obj c ns vs)(h1:ns.contains nm=false)(h2:tb.lookup c=some F)(fo:FE)(fa:FA)(δ:DE)(ds:List D)(h:fo δ= .ok (.sh M))(ha:fa δ= .ok ds)(hk:ds.length=k):d_2 nm k tb fo fa δ=F (M::ds):=by
 subst hM;simp only [d_2,h,R.bind_ok,W.d_sh,h1,Bool.false_eq_true,if_false,h2,ha,hk,if_true]
theorem bj_7:HH (mrkO n w (f_5 s kind part m T)) n s kind part m T:=
 ⟨fldX rfl (by kernel_rfl) (by kernel_rfl),fldX rfl (by kernel_rfl) (by kernel_rfl),fun fo δ h=>by unfold d_2;rw [h];kernel_rfl,fun fo δ h=>by unfold d_2;rw [h];kernel_rfl,fun fo δ h=>by unfold d_2;rw [h];kernel_rfl⟩
theorem dd_1(fo:FE)(δ:DE)(h:fo δ= .ok (.sh (kptO n w (f_5 s kind part m T)))):h_7 C8 "own_table" fo δ= .ok (.sh (f_5 s kind part m T)):=fldX rfl (by kernel_rfl) (by kernel_rfl) fo δ h
theorem au_2(fo:FE)(δ:DE)(h:fo δ= .ok (.sh (maO n w (f_5 s kind part m T)))):h_7 C8 "own_table" fo δ= .ok (.sh (f_5 s kind part m T)):=fldX rfl (by kernel_rfl) (by kernel_rfl) fo δ h
theorem dd_2(fo:FE)(δ:DE)(h:fo δ= .ok (.sh (kptO n w (f_5 s kind part m T)))):d_2 "table" 0 [("Kept",i_1)] fo aNil δ= .ok (.ow (.lst (T.map .int))):=by unfold d_2;rw [h];kernel_rfl
theorem cg_3{d:D}{r:W}(h:f_9 [d, .int s, .int kind, .int part]= .ok r):e_7 [mrkO n w (f_5 s kind part m T),d]= .ok r:=by
 have f:∀(fo:FE) (δ:DE),fo δ= .ok (.sh (mrkO n w (f_5 s kind part m T)))→h_7 C8 "own_table" fo δ= .ok (.sh (f_5 s kind part m T)):=fldX rfl (by kernel_rfl) (by kernel_rfl);generalize mrkO n w (f_5 s kind part m T)=M at *
 have e:=ba_5 (s:=s) (kind:=kind) (part:=part) (m:=m) (T:=T) (d:=d) (w:=r) h (h_7 C8 "own_table" (eVar 0)) [some M,some d] (f (eVar 0) _ rfl) (aCons (eVar 1) aNil) rfl
 simp_arith [e_7,ab_5,evs,e]
end
theorem du_6(s kind part m:Int)(T:List Int)(fo:FE)(δ:DE)(h:fo δ= .ok (.sh (f_5 s kind part m T))):h_7 ["Table"] "kind" fo δ= .ok (.sh (.int kind)):=fldX rfl (by kernel_rfl) (by kernel_rfl) fo δ h
section
variable{n s kind part m w:Int}{T:List Int}{u:Str}{Z:D}
theorem cr_6(ht:v_3 [.str "marked",mrkO n w (f_5 s kind part m T), .int w, .str ""]= .ok (.sh Z)):l_0 [mrkO n w (f_5 s kind part m T)]= .ok (.sh Z):=by
 have c0:eIsO [("Marked",false)] (eVar 0) [some (mrkO n w (f_5 s kind part m T))]= .ok (.sh (.bl false)):=by kernel_rfl
 have c3:eIsO [("Marked",true)] (eVar 0) [some (mrkO n w (f_5 s kind part m T))]= .ok (.sh (.bl true)):=by kernel_rfl
 have d1:h_7 ["Kept", "Marked", "KeptAgain", "MarkedAgain"] "width" (eVar 0) [some (mrkO n w (f_5 s kind part m T))]= .ok (.sh (.int w)):=by kernel_rfl
 generalize mrkO n w (f_5 s kind part m T)=M at *
 simp_arith [l_0,al_3,evs,c0,c3,d1,ht]
end
def tupO(nm:Str)(kind s n:Int)(w:Nat)(T:List Int)(u:Str):D:= .tup [.str nm, .int kind, .int s, .int n, .int (w:Int), .str (mkS ((T.map fun n=>wr w n []).flatten)), .str u]
theorem dm_1{M:D}{n s kind part m:Int}{T:List Int}(h:HH M n s kind part m T)(nm u:Str)(w:Nat)(h1:w≤1000)(h2:T.length≤10000)(hb:∀t∈T,0≤t∧t < 2 ^ w):v_3 [.str nm,M, .int (w:Int), .str u]= .ok (.sh (tupO nm kind s n w T u)):=by
 have e1:=h.tab (eVar 1) [some (.str nm),some M,some (.int (w:Int)),some (.str u),none] rfl;have e2:=du_6 s kind part m T (h_7 C8 "own_table" (eVar 1)) [some (.str nm),some M,some (.int (w:Int)),some (.str u),some (.str (mkS ((T.map fun n=>wr w n []).flatten)))] (h.own (eVar 1) _ rfl);have e3:=h.salt (eVar 1) [some (.str nm),some M,some (.int (w:Int)),some (.str u),some (.str (mkS ((T.map fun n=>wr w n []).flatten)))] rfl;have e4:=h.many (eVar 1) [some (.str nm),some M,some (.int (w:Int)),some (.str u),some (.str (mkS ((T.map fun n=>wr w n []).flatten)))] rfl;have ew:=cg_0 T w h1 h2 hb;unfold tupO;generalize mkS ((T.map fun n=>wr w n []).flatten)=x at *
 simp_arith [v_3,bi_3,evs,e1,ew,e2,e3,e4]
theorem cr_7(w:Nat)(zs:List Int):∀c∈(zs.map fun n=>wr w n []).flatten,bit c:=fun c hc=>by
 obtain⟨l,hl,hc⟩:=List.mem_flatten.mp hc;obtain⟨n,_,rfl⟩:=List.mem_map.mp hl;exact da_9 w n [] (fun c h=>absurd h (by simp)) c hc
theorem bz_8(w:Nat):∀(zs:List Int) (i:Nat) (z:Int),zs[i]? =some z→(((zs.map fun n=>wr w n []).flatten).drop (w * i)).take w=wr w z []
 | [],i,z,h=>by simp at h
 |y::zs,0,z,h=>by
  have:y=z:=by simpa using h
  subst this;rw [Nat.mul_zero,List.drop_zero,List.map_cons,List.flatten_cons,List.take_append_of_le_length (by rw [ai_7];simp),List.take_of_length_le (by rw [ai_7];simp)]
 |y::zs,i + 1,z,h=>by
  rw [List.map_cons,List.flatten_cons,Nat.mul_succ,List.drop_append,List.drop_of_length_le (by rw [ai_7];simp),List.nil_append,ai_7];have e:w * i + w - (w + ([]:List Nat).length)=w * i:=by simp
  rw [e];exact bz_8 w zs i z (by simpa using h)
theorem bz_9(w:Nat)(zs:List Int)(hz:∀z∈zs,0≤z∧z < 2 ^ w):y_2 ((zs.map fun n=>wr w n []).flatten) w zs.length=zs:=by
 apply List.ext_getElem?;intro i;unfold y_2;rw [List.getElem?_map]
 by_cases hi:i < zs.length
 ·obtain⟨z,e1⟩:∃z,zs[i]? =some z:=⟨zs[i],List.getElem?_eq_getElem hi⟩;rw [List.getElem?_range hi,e1];show some (rd (((zs.map fun n=>wr w n []).flatten.drop (w * i)).take w) 0)=some z;obtain⟨b1,b2⟩:=hz z (List.mem_of_getElem? e1);rw [bz_8 w zs i z e1,du_1 w z b1 b2]
 ·rw [List.getElem?_eq_none (by rw [List.length_range];omega),List.getElem?_eq_none (by omega)];rfl
theorem cg_4(T:List Int)(w:Nat)(h1:1≤w)(h2:w≤100)(h3:T.length≤900)(hb:∀t∈T,0≤t∧t < 2 ^ w)(z:Int):l_8 [.str (mkS ((T.map fun n=>wr w n []).flatten)), .int (w:Int), .int z]= .ok (.ow (.lst (T.map .int))):=by
 have hl:(mkS ((T.map fun n=>wr w n []).flatten)).length=w * T.length:=by rw [x_2,bz_3]
 have hm:=Nat.mul_le_mul h2 h3;have e:=bq_2 (mkS ((T.map fun n=>wr w n []).flatten)) w T.length h1 hl (by omega) (by omega) (by rw [n_4];exact cr_7 w T);rw [n_4,bz_9 w T hb] at e;generalize mkS ((T.map fun n=>wr w n []).flatten)=x at *
 have g:gtD (.int (w:Int)) (.int 0)= .ok (.sh (.bl true)):=by rw [cy_5];simp;omega
 simp_arith [l_8,ab_6,evs,g,e]
theorem dd_3{nm x u:Str}{kind s n w:Int}{r:W}(ho:w_2 [.str nm, .int kind, .int s, .int n, .int w, .str x, .str u]= .ok r):i_2 [.tup [.str nm, .int kind, .int s, .int n, .int w, .str x, .str u]]= .ok r:=by
 have hi:∀(i:Nat) (d:D),([D.str nm, .int kind, .int s, .int n, .int w, .str x, .str u])[i]? =some d→ixD (.tup [.str nm, .int kind, .int s, .int n, .int w, .str x, .str u]) (.int (i:Int))= .ok (.sh d):=fun i d h=>by
  unfold ixD;simp only [am_4 h]
 have i0:=hi 0 _ rfl;have i1:=hi 1 _ rfl;have i2:=hi 2 _ rfl;have i3:=hi 3 _ rfl;have i4:=hi 4 _ rfl;have i5:=hi 5 _ rfl;have i6:=hi 6 _ rfl;generalize D.tup [D.str nm, .int kind, .int s, .int n, .int w, .str x, .str u]=Z at *
 simp only [show((0:Nat):Int)=0 from rfl,show((1:Nat):Int)=1 from rfl,show((2:Nat):Int)=2 from rfl,show((3:Nat):Int)=3 from rfl,show((4:Nat):Int)=4 from rfl,show((5:Nat):Int)=5 from rfl,show((6:Nat):Int)=6 from rfl] at i0 i1 i2 i3 i4 i5 i6
 simp_arith [i_2,al_2,evs,i0,i1,i2,i3,i4,i5,i6,ho]
section
variable{N w:Nat}{s kind:Int}{T:List Int}{u:Str}
theorem du_7(hN:N≤200)(hk:kind=2∨kind=3)(h1:1≤w)(h2:w≤100)(h3:T.length≤900)(hb:∀t∈T,0≤t∧t < 2 ^ w):i_2 [tupO "marked" kind s (N:Int) w T ""]= .ok (.sh (maO (N:Int) (w:Int) (f_5 s kind (d_0 (N:Int) kind) (2 ^ w) T))):=by
 obtain⟨p1,_,p3,p4⟩:=af_0 (N:Int) kind (by omega) (by omega) hk;have m1:=e_0 (i:=kind) (j:=d_0 (N:Int) kind) (i_6 (by omega) (by omega));have e:=cg_4 T w h1 h2 h3 hb (kind * d_0 (N:Int) kind);have e2:=z_1 w (by omega);unfold tupO maO f_5;generalize mkS ((T.map fun n=>wr w n []).flatten)=x at *
 have q0:eqD (.str "marked") (.str "peeled")= .ok (.sh (.bl false)):=by kernel_rfl
 have q1:eqD (.str "marked") (.str "ordered")= .ok (.sh (.bl false)):=by kernel_rfl
 have q2:eqD (.str "marked") (.str "kept")= .ok (.sh (.bl false)):=by kernel_rfl
 refine dd_3 ?_
 simp_arith [w_2,az_4,evs,p1,m1,e,e2,q0,q1,q2,ab_3,ba_4,du_5]
end
section
variable{n s kind part m w z y:Int}{T:List Int}{u:Str}{d:D}
theorem bq_4{M:D}(h:∀(fo:FE) (δ:DE),fo δ= .ok (.sh M)→h_7 C8 "own_table" fo δ= .ok (.sh (f_5 s kind part m T)))(ht:b_7 [f_5 s kind part m T,d]= .ok (.sh (.int z)))(r:List (Option D)):d_2 "total" 1 [("Table",b_7)] (h_7 C8 "own_table" (eVar 0)) (aCons (eVar 1) aNil) (some M::some d::r)= .ok (.sh (.int z)):=
 (metX (tb:= [("Table",b_7)]) (M:=f_5 s kind part m T) rfl (by kernel_rfl) (by kernel_rfl) (h_7 C8 "own_table" (eVar 0)) (aCons (eVar 1) aNil) (some M::some d::r) [d] (h (eVar 0) _ rfl) rfl rfl).trans ht
theorem dd_4(ht:b_7 [f_5 s kind part m T,d]= .ok (.sh (.int z))):d_9 [kptO n w (f_5 s kind part m T),d]= .ok (.sh (.int z)):=by
 have e:=bq_4 (dd_1 n s kind part m w T) ht [];generalize kptO n w (f_5 s kind part m T)=M at *
 simp_arith [d_9,al_1,evs,e]
theorem cg_5(ht:b_7 [f_5 s kind part m T,d]= .ok (.sh (.int z)))(hm:aa_7 [d, .int w]= .ok (.sh (.int y))):b_6 [mrkO n w (f_5 s kind part m T),d]= .ok (.sh (.bl (decide (z=y)))):=by
 have e:=bq_4 (bj_7 n s kind part m w T).own ht [];have e2:h_7 ["Kept", "Marked", "KeptAgain", "MarkedAgain"] "width" (eVar 0) [some (mrkO n w (f_5 s kind part m T)),some d]= .ok (.sh (.int w)):=by kernel_rfl
 generalize mrkO n w (f_5 s kind part m T)=M at *
 simp_arith [b_6,ad_5,evs,e,e2,hm,f_2]
theorem au_3(ht:b_7 [f_5 s kind part m T,d]= .ok (.sh (.int z)))(hm:aa_7 [d, .int w]= .ok (.sh (.int y))):c_5 [maO n w (f_5 s kind part m T),d]= .ok (.sh (.bl (decide (z=y)))):=by
 have e:=bq_4 (au_2 n s kind part m w T) ht [];have e2:h_7 ["Kept", "Marked", "KeptAgain", "MarkedAgain"] "width" (eVar 0) [some (maO n w (f_5 s kind part m T)),some d]= .ok (.sh (.int w)):=by kernel_rfl
 generalize maO n w (f_5 s kind part m T)=M at *
 simp_arith [c_5,u_6,evs,e,e2,hm,f_2]
end
theorem t_1{Q:List Int}{j:Nat}(h:j < Q.length):ixD (.lst (Q.map .int)) (.int (j:Int))= .ok (.sh (.int (Q.getD j 0))):=by
 refine ah_9 (am_4 ?_);rw [List.getElem?_map,List.getD_eq_getElem?_getD,List.getElem?_eq_getElem h];rfl
theorem bq_5(Q:List Int)(j:Nat)(z:Int):(Q.map D.int).set j (.int z)=(Q.set j z).map .int:=by rw [List.map_set]
theorem cr_8(Q:List Int):(Q.map D.int).all flatD=true:=by
 rw [List.all_map];exact List.all_eq_true.mpr fun _ _=>rfl
theorem ca_0(ns:List Int):eqD (.lst (ns.map .int)) (.lst [])= .ok (.sh (.bl (decide (ns= [])))):=by
 have:eqC (.lst (ns.map .int)) (.lst [])=true:=cz_2 ns [];rw [cl_0];rw [if_pos this];cases ns with
 |nil=>rfl
 |cons n ns=>rfl
abbrev stD(ns:List Int)(m:Int)(Q:List Int)(b:Bool)(S F:List Int)(a6 a7:Sl):SE:= [.sh (.lst (ns.map .int)), .sh (.int m), .ow (.lst (Q.map .int)), .sh (.bl b), .ow (.lst (S.map .int)), .ow (.lst (F.map .int)),a6,a7]
theorem dd_5{F:List Int}{x:Int}(h:∀z∈F,0≤z∧z < 2147483587)(hx:0≤x∧x < 2147483587):∀z∈F ++ [x],0≤z∧z < 2147483587:=fun z hz=>by
 rcases List.mem_append.mp hz with hz|hz
 ·exact h z hz
 ·rw [show z=x by simpa using hz];exact hx
theorem cr_9{ns Q S F:List Int}{m:Int}{b:Bool}{a7:Sl}{k:Nat}(hk:k < 1000)(hR:0 < Q.length)(hS:S.length=Q.length)(hF:F.length=k)(hB:∀z∈F,0≤z∧z < 2147483587):
  ∃Q' F' a7',Q'.length=Q.length∧F'.length=k + 1∧(∀z∈F',0≤z∧z < 2147483587)∧o_4 (stD ns m Q b S F (.sh (.int (0 + (k:Int)))) a7)= .nx (stD ns m Q' b S F' (.sh (.int (0 + (k:Int)))) a7'):=by
 obtain⟨j,hj,ej⟩:∃j:Nat,j < Q.length∧(0 + (k:Int)) % (Q.length:Int)=(j:Int):=⟨k % Q.length,Nat.mod_lt _ hR,by rw [Int.zero_add,Int.natCast_emod]⟩;have q1:sSet 7 [2,6] (eOp j_0 (eVar 6) (eCall h_6 (aCons (eVar 2) aNil))) (stD ns m Q b S F (.sh (.int (0 + (k:Int)))) a7)= .nx (stD ns m Q b S F (.sh (.int (0 + (k:Int)))) (.sh (.int (j:Int)))):=by
  simp_arith [evs,m_7,List.length_map,f_3 (show(0:Int) < (Q.length:Int) by omega),ej]
 have i2:=t_1 hj;have i4:=t_1 (Q:=S) (j:=j) (by omega);have hl:(F.map D.int).length < 16777216:=by rw [List.length_map];omega
 have hkk:(0 + (k:Int)) * (0 + (k:Int)) % 1009 + 3≤2000∧0≤(0 + (k:Int)) * (0 + (k:Int)) % 1009 + 3:=by omega
 have mk:g_0 (.int (0 + (k:Int))) (.int (0 + (k:Int)))= .ok (.sh (.int ((0 + (k:Int)) * (0 + (k:Int))))):=e_0 (i_6 (by omega) (by omega));unfold o_4;rw [a_9 q1]
 by_cases hb:b=true∨Q.getD j 0=0
 ·refine⟨Q,F ++ [mixZ (mixZ (S.getD j 0 % 2147483647) (0 + (k:Int) + 7)) ((0 + (k:Int)) * (0 + (k:Int)) % 1009 + 3)], .sh (.int (j:Int)),rfl,by rw [List.length_append,hF];rfl,dd_5 hB ⟨Int.emod_nonneg _ (by decide),Int.emod_lt_of_pos _ (by decide)⟩, ?_⟩;have ht:tOrF (eTruth (eVar 3)) (eTest (eOp eqD (eOp ixD (eVar 2) (eVar 7)) (eC (.int 0)))) (vall (stD ns m Q b S F (.sh (.int (0 + (k:Int)))) (.sh (.int (j:Int)))))= .ok true:=by
   cases b with
   |true=>simp_arith [evs]
   |false=>
    have hb:Q.getD j 0=0:=by rcases hb with c|c;cases c;exact c
    simp_arith [evs,i2,f_2,hb]
  unfold sIf;rw [ht];simp only [if_true];unfold stD;rw [List.map_append]
  simp_arith [evs,sApp,hl,i4,f_3 (show(0:Int) < 2147483647 by decide),e_5,da_8 _ (0 + (k:Int) + 7) (by omega) (by omega),mk,f_3 (show(0:Int) < 1009 by decide),da_8 _ ((0 + (k:Int)) * (0 + (k:Int)) % 1009 + 3) (by omega) (by omega)]
 ·have hb1:b=false:=by
   cases b with
   |true=>exact absurd (.inl rfl) hb
   |false=>rfl
  have hb2:¬Q.getD j 0=0:=fun c=>hb (.inr c);subst hb1;refine⟨Q.set j (Q.getD j 0 / 2147483587),F ++ [Q.getD j 0 % 2147483587], .sh (.int (j:Int)),by rw [List.length_set],by rw [List.length_append,hF];rfl,dd_5 hB ⟨Int.emod_nonneg _ (by decide),Int.emod_lt_of_pos _ (by decide)⟩, ?_⟩;have ht:tOrF (eTruth (eVar 3)) (eTest (eOp eqD (eOp ixD (eVar 2) (eVar 7)) (eC (.int 0)))) (vall (stD ns m Q false S F (.sh (.int (0 + (k:Int)))) (.sh (.int (j:Int)))))= .ok false:=by
   simp_arith [evs,i2,f_2,hb2]
  have hx:ixN (Q.map D.int).length (j:Int)=some j:=by_4 (by rw [List.length_map];exact hj);unfold sIf;rw [ht];simp only [Bool.false_eq_true,if_false];unfold stD;rw [List.map_append,←bq_5]
  simp_arith [evs,sApp,hl,i2,f_3 (show(0:Int) < 2147483587 by decide),m_4 (show(0:Int) < 2147483587 by decide) (by decide),ak_3,hx]
theorem dd_6(ns:List Int)(hn:ns.length≤63)(m:Nat)(hm:m≤1000):∃zs:List Int,zs.length=m∧(∀z∈zs,0≤z∧z < 2147483587)∧q_4 [.lst (ns.map .int), .int (m:Int)]= .ok (.ow (.lst (zs.map .int))):=by
 obtain⟨Q,hR,q2⟩:∃Q:List Int,0 < Q.length∧sIf [2] (eTest (eOp eqD (eVar 2) (eLst aNil))) (sSet 2 [] (eLst (aCons (eC (.int 0)) aNil))) sNil [.sh (.lst (ns.map .int)), .sh (.int (m:Int)), .ow (.lst (ns.map .int)), .no, .no, .no, .no, .no]= .nx [.sh (.lst (ns.map .int)), .sh (.int (m:Int)), .ow (.lst (Q.map .int)), .no, .no, .no, .no, .no]:=by
  by_cases h:ns= []
  ·subst h;exact⟨[0],by decide,rfl⟩
  ·refine⟨ns,List.length_pos_iff.mpr h, ?_⟩
   simp_arith [evs,ca_0,h]
 have q1:sSet 2 [0] (eCall r_0 (aCons (eVar 0) aNil)) (start3 8 [.lst (ns.map .int), .int (m:Int)])= .nx [.sh (.lst (ns.map .int)), .sh (.int (m:Int)), .ow (.lst (ns.map .int)), .no, .no, .no, .no, .no]:=rfl;have i0:=t_1 (Q:=Q) (j:=0) hR;have hx:ixN (Q.map D.int).length (0:Int)=some 0:=by_4 (by rw [List.length_map];exact hR);have q3:sSet 3 [2] (eOp eqD (eOp j_0 (eOp ixD (eVar 2) (eC (.int 0))) (eC (.int 2))) (eC (.int 1))) [.sh (.lst (ns.map .int)), .sh (.int (m:Int)), .ow (.lst (Q.map .int)), .no, .no, .no, .no, .no]= .nx [.sh (.lst (ns.map .int)), .sh (.int (m:Int)), .ow (.lst (Q.map .int)), .sh (.bl (decide (Q.getD 0 0 % 2=1))), .no, .no, .no, .no]:=by
  have i0:ixD (.lst (Q.map .int)) (.int 0)= .ok (.sh (.int (Q.getD 0 0))):=i0
  simp_arith [evs,i0,f_3 (show(0:Int) < 2 by decide),f_2]
 have q4:ak_3 2 (eC (.int 0)) (eOp v_4 (eOp ixD (eVar 2) (eC (.int 0))) (eC (.int 2))) [.sh (.lst (ns.map .int)), .sh (.int (m:Int)), .ow (.lst (Q.map .int)), .sh (.bl (decide (Q.getD 0 0 % 2=1))), .no, .no, .no, .no]= .nx [.sh (.lst (ns.map .int)), .sh (.int (m:Int)), .ow (.lst ((Q.set 0 (Q.getD 0 0 / 2)).map .int)), .sh (.bl (decide (Q.getD 0 0 % 2=1))), .no, .no, .no, .no]:=by
  have i0:ixD (.lst (Q.map .int)) (.int 0)= .ok (.sh (.int (Q.getD 0 0))):=i0;rw [←bq_5]
  simp_arith [ak_3,evs,i0,m_4 (show(0:Int) < 2 by decide) (by decide),hx]
 have hS:(Q.set 0 (Q.getD 0 0 / 2)).length=Q.length:=List.length_set;generalize decide (Q.getD 0 0 % 2=1)=b at *
 generalize Q.set 0 (Q.getD 0 0 / 2)=S at *
 have q5:ar_4 4 (eCall r_0 (aCons (eVar 2) aNil)) [.sh (.lst (ns.map .int)), .sh (.int (m:Int)), .ow (.lst (S.map .int)), .sh (.bl b), .no, .no, .no, .no]= .nx [.sh (.lst (ns.map .int)), .sh (.int (m:Int)), .ow (.lst (S.map .int)), .sh (.bl b), .ow (.lst (S.map .int)), .no, .no, .no]:=by
  have e:eCall r_0 (aCons (eVar 2) aNil) (vall [.sh (.lst (ns.map .int)), .sh (.int (m:Int)), .ow (.lst (S.map .int)), .sh (.bl b), .no, .no, .no, .no])= .ok (.ow (.lst (S.map .int))):=rfl;unfold ar_4;rw [e];simp only [cr_8,if_true];rfl
 have q6:sSet 5 [] (eLst aNil) [.sh (.lst (ns.map .int)), .sh (.int (m:Int)), .ow (.lst (S.map .int)), .sh (.bl b), .ow (.lst (S.map .int)), .no, .no, .no]= .nx (stD ns (m:Int) S b S [] .no .no):=rfl;obtain⟨Δ',e,Q',F,a6,a7,_,hF,hB,rfl⟩:=v_1 (gV 6) o_4 (fun k Δ=>∃(Q' F:List Int) (a6 a7:Sl),Q'.length=S.length∧F.length=k∧(∀z∈F,0≤z∧z < 2147483587)∧Δ=stD ns (m:Int) Q' b S F a6 a7) (n:=m) (lo:=0) (Δ:=stD ns (m:Int) S b S [] .no .no) ⟨S, [],_,_,rfl,rfl,fun z hz=>absurd hz (by simp),rfl⟩ (fun k Δ hk hI=>by
  obtain⟨Q',F,a6,a7,h1,h2,h3,rfl⟩:=hI;obtain⟨R2,F2,a72,g1,g2,g4,g3⟩:=cr_9 (ns:=ns) (Q:=Q') (S:=S) (F:=F) (m:=(m:Int)) (b:=b) (a7:=a7) (k:=k) (by omega) (by omega) h1.symm h2 h3;exact⟨stD ns (m:Int) Q' b S F (.sh (.int (0 + (k:Int)))) a7,rfl,_, .inl g3,R2,F2,_,_,g1.trans h1,g2,g4,rfl⟩)
 have q7:g_1 [1] (iArgs n_7 (aCons (eVar 1) aNil)) (gV 6) o_4 (stD ns (m:Int) S b S [] .no .no)= .nx (stD ns (m:Int) Q' b S F a6 a7):=by
  have hi:iArgs n_7 (aCons (eVar 1) aNil) (vsh (stD ns (m:Int) S b S [] .no .no))= .ok (b_5 0 m):=by
   simp_arith [evs,r_3 (show(-4611686018427387903:Int)≤(m:Int) by omega) (by omega),Int.toNat_natCast]
  unfold g_1;rw [hi];exact e
 refine⟨F,hF,hB, ?_⟩;unfold q_4;refine r_4 ?_;unfold ar_6;rw [a_9 q1,a_9 q2,a_9 q3,a_9 q4,a_9 q5,a_9 q6,a_9 q7];rfl
theorem bq_6(a b c:Int):∃d,isKey d∧g_3 [.int a, .int b, .int c]= .ok (.sh d):=by
 have d3:=m_4 (i:=a) (show(0:Int) < 3 by decide) (by decide);have m3:=f_3 (i:=a) (show(0:Int) < 3 by decide);have p18:=cy_7 (bw_1 (i:=10) (j:=18) (by decide) (by decide) (by decide) (by decide));have e18:(10:Int) ^ (18:Int).toNat=1000000000000000000:=by decide
 rw [e18] at p18;have m7:g_0 (.int 700000000) (.int b)= .ok (.sh (.int (700000000 * b))):=e_0 (i_6 (by decide) (by decide));have:a % 3=0∨a % 3=2∨a % 3=1:=by omega
 rcases this with h|h|h
 ·refine⟨.int ((a / 3 + 700000000 * b) % 1000000000000000000), .inl ⟨_,rfl,by omega,by omega⟩, ?_⟩
  simp_arith [g_3,p_4,evs,d3,m3,m7,e_5,f_2,h,p18,f_3 (show(0:Int) < 1000000000000000000 by decide)]
 ·refine⟨.int (a / 3 % 50), .inl ⟨_,rfl,by omega,by omega⟩, ?_⟩;have n0:¬(2:Int)=0:=by decide
  simp_arith [g_3,p_4,evs,d3,m3,f_2,h,n0,f_3 (show(0:Int) < 50 by decide)]
 ·have n0:¬(1:Int)=0:=by decide
  have n2:¬(1:Int)=2:=by decide
  have b0:=Int.emod_nonneg (a / 3) (show(12:Int)≠0 by decide);have b1:=Int.emod_lt_of_pos (a / 3) (show(0:Int) < 12 by decide);have m36:g_0 (.int (a / 36)) (.int 1500000000)= .ok (.sh (.int (a / 36 * 1500000000))):=e_0 (ac_8 (by decide) (by decide));obtain⟨Δ',e,l,Z,a6,a7,rfl,hZ,hl,hc⟩:=v_1 (gV 6) m_8 (fun k Δ=>∃(l:List Nat) (Z:List Int) (a6 a7:Sl),Δ= [.sh (.int a), .sh (.int b), .sh (.int c), .sh (.str "abcdefghijklmnopqrstuvwxyz0123456789-_ "), .ow (.lst (Z.map .int)), .sh (.str (mkS l)),a6,a7]∧Z.length=2∧l.length=k∧∀c∈l,c∈sgL)
   (n:=(a / 3 % 12).toNat) (lo:=0) (Δ:= [.sh (.int a), .sh (.int b), .sh (.int c), .sh (.str "abcdefghijklmnopqrstuvwxyz0123456789-_ "), .ow (.lst ([a / 36 * 1500000000 + b,c].map .int)), .sh (.str ""), .no, .no]) ⟨[],_, .no, .no,rfl,rfl,rfl,fun c hc=>absurd hc (by simp)⟩ (fun k Δ hk hI=>by
   obtain⟨l,Z,a6,a7,rfl,hZ,hl,hc⟩:=hI;obtain⟨j,hj,ej⟩:∃j:Nat,j < 2∧(0 + (k:Int)) / 6=(j:Int):=⟨k / 6,by omega,by omega⟩;have i4:=t_1 (Q:=Z) (j:=j) (by omega);obtain⟨y,hy,ec⟩:=dz_1 (Z.getD j 0);have zj:(mkS l).length + (mkS [y]).length≤16777216:=by rw [x_2,x_2];simp;omega
   have hx:ixN (Z.map D.int).length (j:Int)=some j:=by_4 (by rw [List.length_map];omega);refine⟨_,rfl, [.sh (.int a), .sh (.int b), .sh (.int c), .sh (.str "abcdefghijklmnopqrstuvwxyz0123456789-_ "), .ow (.lst ((Z.set j (Z.getD j 0 / 39)).map .int)), .sh (.str (mkS (l ++ [y]))), .sh (.int (0 + (k:Int))), .sh (.int (j:Int))], .inl ?_,l ++ [y],Z.set j (Z.getD j 0 / 39),_,_,rfl,by rw [List.length_set];exact hZ,by simp [hl], ?_⟩
   ·rw [←bq_5]
    simp_arith [m_8,evs,m_4 (show(0:Int) < 6 by decide) (by decide),ej,i4,f_3 (show(0:Int) < 39 by decide),ec,cy_6 zj,ck_8,ak_3,hx,m_4 (show(0:Int) < 39 by decide) (by decide)]
   ·intro d hd;rcases List.mem_append.mp hd with hd|hd
    ·exact hc d hd
    ·have:d=y:=by simpa using hd
     rw [this];exact hy)
  refine⟨.str (mkS l), .inr ⟨l,rfl,by omega,hc⟩, ?_⟩;have e:l_2 (gV 6) m_8 (b_5 0 (a / 3 % 12).toNat) [.sh (.int a), .sh (.int b), .sh (.int c), .sh (.str "abcdefghijklmnopqrstuvwxyz0123456789-_ "), .ow (.lst [.int (a / 36 * 1500000000 + b), .int c]), .sh (.str ""), .no, .no]=_:=e
  simp_arith [g_3,p_4,evs,d3,m3,f_2,h,n0,n2,m_4 (i:=a) (show(0:Int) < 36 by decide) (by decide),m36,e_5,f_3 (show(0:Int) < 12 by decide),g_1,r_3 (show -4611686018427387903≤a / 3 % 12 by omega) (by omega),e]
theorem be_0(zs:List Int)(s m:Nat)(h0:s + 3 * m≤zs.length)(h1:zs.length≤1000)(hm:1≤m):
  ∃ks:List D,ks≠ []∧ks.length≤m∧(∀k∈ks,isKey k)∧ks.Nodup∧f_7 [.lst (zs.map .int), .int (s:Int), .int (m:Int)]= .ok (.ow (.lst ks)):=by
 obtain⟨Δ',e,ks,a4,a5,a6,rfl,hl,hk,hd⟩:=v_1 (gV 4) k_8 (fun k Δ=>∃(ks:List D) (a4 a5 a6:Sl),Δ= [.sh (.lst (zs.map .int)), .sh (.int (s:Int)), .sh (.int (m:Int)), .ow (.lst ks),a4,a5,a6]∧ks.length≤k∧(∀k∈ks,isKey k)∧ks.Nodup)
  (n:=m) (lo:=0) (Δ:= [.sh (.lst (zs.map .int)), .sh (.int (s:Int)), .sh (.int (m:Int)), .ow (.lst []), .no, .no, .no]) ⟨[], .no, .no, .no,rfl,Nat.le_refl _,fun k hk=>absurd hk (by simp),List.nodup_nil⟩ (fun k Δ hk hI=>by
  obtain⟨ks,a4,a5,a6,rfl,hl,hks,hd⟩:=hI;have m3:g_0 (.int 3) (.int (0 + (k:Int)))= .ok (.sh (.int (3 * (0 + (k:Int))))):=e_0 (i_6 (by decide) (by decide));have e0:(s:Int) + 3 * (0 + (k:Int))=((s + 3 * k:Nat):Int):=by omega
  have e1:((s + 3 * k:Nat):Int) + 1=((s + 3 * k + 1:Nat):Int):=by omega
  have e2:((s + 3 * k:Nat):Int) + 2=((s + 3 * k + 2:Nat):Int):=by omega
  have i0:=t_1 (Q:=zs) (j:=s + 3 * k) (by omega);have i1:=t_1 (Q:=zs) (j:=s + 3 * k + 1) (by omega);have i2:=t_1 (Q:=zs) (j:=s + 3 * k + 2) (by omega);obtain⟨d,hdk,ed⟩:=bq_6 (zs.getD (s + 3 * k) 0) (zs.getD (s + 3 * k + 1) 0) (zs.getD (s + 3 * k + 2) 0);have hl2:ks.length < 16777216:=by omega
  have hni:=by_5 hdk hks;cases hm:u_2 d ks with
  |true=>
   refine⟨_,rfl, [.sh (.lst (zs.map .int)), .sh (.int (s:Int)), .sh (.int (m:Int)), .ow (.lst ks), .sh (.int (0 + (k:Int))), .sh (.int ((s + 3 * k:Nat):Int)), .sh d], .inl ?_,ks,_,_,_,rfl,by omega,hks,hd⟩;rw [hm] at hni
   simp_arith [k_8,evs,m3,e_5,e0,e1,e2,i0,i1,i2,ed,hni]
  |false=>
   refine⟨_,rfl, [.sh (.lst (zs.map .int)), .sh (.int (s:Int)), .sh (.int (m:Int)), .ow (.lst (ks ++ [d])), .sh (.int (0 + (k:Int))), .sh (.int ((s + 3 * k:Nat):Int)), .sh d], .inl ?_,ks ++ [d],_,_,_,rfl,by simp;omega, ?_, ?_⟩
   ·rw [hm] at hni
    simp_arith [k_8,evs,m3,e_5,e0,e1,e2,i0,i1,i2,ed,hni,sApp,hl2]
   ·intro x hx;rcases List.mem_append.mp hx with hx|hx
    ·exact hks x hx
    ·have:x=d:=by simpa using hx
     rw [this];exact hdk
   ·rw [List.nodup_append];refine⟨hd,by simp,fun a ha b hb=> ?_⟩;have:b=d:=by simpa using hb
    subst this
    rintro rfl
    rw [(aw_4 hdk hks).mpr ha] at hm;cases hm)
 obtain⟨b,hb,eb,_⟩:=db_1 hk (js:= []) (fun k hk=>absurd hk (by simp));have er:=r_3 (show(-4611686018427387903:Int)≤(m:Int) by omega) (by omega);rw [Int.toNat_natCast] at er
 by_cases hz:ks= []
 ·have is:=t_1 (Q:=zs) (j:=s) (by omega);refine⟨[.int (zs.getD s 0 % 50)],by simp,by simp;omega,fun x hx=> ?_,by simp, ?_⟩
  ·have:x= .int (zs.getD s 0 % 50):=by simpa using hx
   rw [this];exact .inl ⟨_,rfl,by omega,by omega⟩
  ·have:b=true:=hb.mpr hz;subst this
   simp_arith [f_7,s_7,evs,g_1,er,e,eb,is,f_3 (show(0:Int) < 50 by decide)]
 ·refine⟨ks,hz,by omega,hk,hd, ?_⟩;have:b=false:=by
   cases b with
   |true=>exact absurd (hb.mp rfl) hz
   |false=>rfl
  subst this
  simp_arith [f_7,s_7,evs,g_1,er,e,eb]
theorem an_1(T:List Int)(ps:List Nat)(m:Int)(hm:0 < m)(h:∀p∈ps,p < T.length)(hl:ps.length≤1000):k_4 [.lst (T.map .int),eT ps, .int m]= .ok (.sh (.int (f_4 T ps % m))):=by
 have hc:=ac_9 (fg:=gC 3) (f:=t_4) (δ:= [some (.lst (T.map .int)),some (eT ps),some (.int m),none]) (fun d=>match d with| .int i=> .int (at0 T i.toNat)|d=>d) (zi ps) (fun d hd=>by
  obtain⟨p,hp,rfl⟩:=List.mem_map.mp hd;refine⟨[some (.lst (T.map .int)),some (eT ps),some (.int m),some (.int (p:Int))], .sh (.int (at0 T p)),rfl, ?_,by simp⟩
  simp_arith [t_4,evs,ah_9 (dc_1 (h p hp))])
 have hz:(zi ps).map (fun d=>match d with| .int i=>D.int (at0 T i.toNat)|d=>d)=ps.map fun p=>D.int (at0 T p):=by
  unfold zi;rw [List.map_map];apply List.map_congr_left;intro p _;simp
 rw [hz] at hc;have ec:=g_4 (m:=1) (fi:=iOf (eVar 1)) (fg:=gC 3) (p:=fun _=> .ok true) (f:=t_4) (δ:= [some (.lst (T.map .int)),some (eT ps),some (.int m)]) (ds:=zi ps) rfl (by rw [w_3];omega) hc
 simp_arith [k_4,as_3,evs,ec,da_7,f_3 hm]
 rfl
theorem bq_7{n:Int}(h0:0≤n)(h1:n≤999999999999999999):isKey (.int n):= .inl ⟨n,rfl,h0,h1⟩
def dueL(ks:List D)(g:Int→Bool)(lo:Int)(k:Nat):List Int:=((List.range k).map fun(j:Nat)=>lo + (j:Int)).filter fun n=> !u_2 (.int n) ks && g n
theorem cs_0(ks:List D)(g:Int→Bool)(lo:Int)(k:Nat):dueL ks g lo (k + 1)=dueL ks g lo k ++ (if(!u_2 (.int (lo + (k:Int))) ks && g (lo + (k:Int)))=true then [lo + (k:Int)] else []):=by
 unfold dueL;rw [List.range_succ,List.map_append,List.filter_append]
 congr 1
 simp only [List.map_cons,List.map_nil,List.filter_cons,List.filter_nil]
theorem dd_7(ks:List D)(g:Int→Bool)(lo:Int)(k:Nat):(dueL ks g lo k).length≤k:=by
 have:=List.length_filter_le (fun n=> !u_2 (.int n) ks && g n) ((List.range k).map fun(j:Nat)=>lo + (j:Int));rw [List.length_map,List.length_range] at this;exact this
theorem dm_2{M:D}{g:Int→Bool}(kn:∀(n:Int),isKey (.int n)→∀(fo:FE) (fa:FA) (δ:DE),fo δ= .ok (.sh M)→fa δ= .ok [.int n]→d_2 "knows" 1 [("Marked",b_6),("MarkedAgain",c_5)] fo fa δ= .ok (.sh (.bl (g n)))){ks:List D}(hk:∀k∈ks,isKey k)(nd:ks.Nodup)(hl:ks.length≤200)(lo hi:Int)(h0:0≤lo)(h1:hi≤999999999999999999)(h2:hi - lo < 2000)(h3:lo≤1000000000000000000)(h4:0≤hi):
  p_9 [M, .lst ks, .int lo, .int hi]= .ok (.ow (.lst ((dueL ks g lo (hi + 1 - lo).toNat).map .int))):=by
 have e:=cl_2 hk;obtain⟨Δ',e4,a5,rfl⟩:=f_6 (gV 5) v_0 (fun k Δ=>∃a5,Δ= [.sh M, .sh (.lst ks), .sh (.int lo), .sh (.int hi), .ow (.dic (k_5 (ks.take k))),a5, .no, .no]) (ds:=ks) (Δ:= [.sh M, .sh (.lst ks), .sh (.int lo), .sh (.int hi), .ow (.dic []), .no, .no, .no])
  ⟨_,rfl⟩ (fun k d Δ hd hI=>by
   obtain⟨a5,rfl⟩:=hI;have hkk:k < ks.length:=(List.getElem?_eq_some_iff.mp hd).1;have hdk:=hk d (List.mem_of_getElem? hd);have ba:∀x∈ks.take k,isKey x:=fun x hx=>hk x (List.mem_of_mem_take hx);have dn:d∉ks.take k:=fun z=>by
    obtain⟨j,hj⟩:=List.getElem?_of_mem z;have hjk:j < k:=by
     have:=(List.getElem?_eq_some_iff.mp hj).1;rw [List.length_take] at this;omega
    rw [List.getElem?_take_of_lt hjk] at hj;obtain⟨b1,b2⟩:=List.getElem?_eq_some_iff.mp hj;obtain⟨c1,c2⟩:=List.getElem?_eq_some_iff.mp hd;exact List.pairwise_iff_getElem.mp nd j k b1 c1 hjk (b2.trans c2.symm)
   have sp:=bz_0 ba hdk dn;have kd:=az_8 hdk;have tk:ks.take (k + 1)=ks.take k ++ [d]:=by rw [List.take_add_one,hd];rfl
   have ln:(k_5 (ks.take k)).length < 16777216:=by unfold k_5;rw [List.length_map,List.length_take];omega
   refine⟨_,rfl, [.sh M, .sh (.lst ks), .sh (.int lo), .sh (.int hi), .ow (.dic (k_5 (ks.take (k + 1)))), .sh d, .no, .no], .inl ?_,_,rfl⟩;rw [tk,←sp]
   simp_arith [v_0,ak_5,evs,kd,ln])
 rw [List.take_length] at e4;have t4:g_1 [1] (iOf (eVar 1)) (gV 5) v_0 [.sh M, .sh (.lst ks), .sh (.int lo), .sh (.int hi), .ow (.dic []), .no, .no, .no]= .nx [.sh M, .sh (.lst ks), .sh (.int lo), .sh (.int hi), .ow (.dic (k_5 ks)),a5, .no, .no]:=by
  have e1:iOf (eVar 1) (vsh [.sh M, .sh (.lst ks), .sh (.int lo), .sh (.int hi), .ow (.dic []), .no, .no, .no])= .ok ks:=rfl;unfold g_1;rw [e1];exact e4
 have ec:c_1 1 (iArgs rng2 (aCons (eVar 6) (aCons (eVar 7) aNil))) (gC 8) n_9 (eVar 8) (vall [.sh M, .sh (.lst ks), .sh (.int lo), .sh (.int hi), .ow (.dic (k_5 ks)),a5, .sh (.int lo), .sh (.int (hi + 1))])= .ok (.ow (.lst ((dueL ks g lo (hi + 1 - lo).toNat).map .int))):=by
  refine g_4 (m:=1) (ds:=b_5 lo (hi + 1 - lo).toNat) ?_ (by rw [l_9];omega) ?_
  ·simp_arith [evs,ck_1 (show -4611686018427387903≤lo by omega) (show lo < 4611686018427387904 by omega) (show -4611686018427387903≤hi + 1 by omega) (show hi + 1 < 4611686018427387904 by omega)]
  ·have hcl:=s_6 (fg:=gC 8) (p:=n_9) (f:=eVar 8) (δ:=vall [.sh M, .sh (.lst ks), .sh (.int lo), .sh (.int hi), .ow (.dic (k_5 ks)),a5, .sh (.int lo), .sh (.int (hi + 1))] ++ List.replicate 1 none) (fun d=>match d with| .int i=> !u_2 (.int i) ks && g i|_=>false) (fun d=>d) (b_5 lo (hi + 1 - lo).toNat) (fun d hd=>by
    obtain⟨j,hj,rfl⟩:=List.mem_map.mp hd;have hj':=List.mem_range.mp hj;have hn:isKey (.int (lo + (j:Int))):=bq_7 (by omega) (by omega);refine⟨_,rfl, ?_,fun _=>⟨_,rfl,rfl⟩⟩;have hin:inK true (.int (lo + (j:Int))) (.dic (k_5 ks))= .ok (.sh (.bl (!u_2 (.int (lo + (j:Int))) ks))):=by
     have hh:hasA (k_5 ks) (kOf (.int (lo + (j:Int))))=u_2 (.int (lo + (j:Int))) ks:=by
      rw [Bool.eq_iff_iff,by_9 hk hn,aw_4 hn hk]
     simp only [inK,az_8 hn,hh,if_true]
    have hm:=fun(r:DE) (b1 b2 b3 b4 b5 b6 b7:Option D)=>kn _ hn (eVar 0) (aCons (eVar 8) aNil) (some M::b1::b2::b3::b4::b5::b6::b7::some (.int (lo + (j:Int)))::r) rfl rfl;show n_9 [some M,some (.lst ks),some (.int lo),some (.int hi),some (.dic (k_5 ks)),Sl.any a5,some (.int lo),some (.int (hi + 1)),some (.int (lo + (j:Int)))]=_;cases hb:u_2 (.int (lo + (j:Int))) ks with
    |true=>
     rw [hb] at hin
     simp_arith [n_9,evs,hin,hb]
    |false=>
     rw [hb] at hin
     simp_arith [n_9,evs,hin,hm,hb])
   rw [List.map_id'] at hcl;refine hcl.trans ?_;unfold b_5 dueL;rw [List.filter_map,List.filter_map,List.map_map];rfl
 refine r_4 ?_;unfold az_3;refine(a_9 (Δ':= [.sh M, .sh (.lst ks), .sh (.int lo), .sh (.int hi), .no, .no, .no, .no]) (by simp_arith [evs,e])).trans ?_;refine(a_9 (Δ':= [.sh M, .sh (.lst ks), .sh (.int lo), .sh (.int hi), .no, .no, .no, .no]) (by simp_arith [evs,aa_1,dn_1,show¬(2000:Int)≤hi - lo by omega])).trans ?_;refine(a_9 (Δ':= [.sh M, .sh (.lst ks), .sh (.int lo), .sh (.int hi), .ow (.dic []), .no, .no, .no]) rfl).trans ?_;rw [a_9 t4];refine(a_9 (Δ':= [.sh M, .sh (.lst ks), .sh (.int lo), .sh (.int hi), .ow (.dic (k_5 ks)),a5, .sh (.int lo), .no]) (by simp_arith [evs,dt_6,show max lo 0=lo by omega])).trans ?_;refine(a_9 (Δ':= [.sh M, .sh (.lst ks), .sh (.int lo), .sh (.int hi), .ow (.dic (k_5 ks)),a5, .sh (.int lo), .sh (.int (hi + 1))]) (by simp_arith [evs,cy_8,show min hi 999999999999999999=hi by omega,e_5])).trans ?_;unfold sRet;rw [ec]
theorem dd_8{ks:List D}(hk:∀k∈ks,isKey k)(g:Int→Bool)(lo:Int)(k:Nat)(h0:0≤lo)(h1:lo + k≤1000000000000000000):dueL ks.reverse g lo k=dueL ks g lo k:=by
 unfold dueL;apply List.filter_congr;intro n hn;obtain⟨j,hj,rfl⟩:=List.mem_map.mp hn;have hj':=List.mem_range.mp hj;have hn:isKey (.int (lo + (j:Int))):=bq_7 (by omega) (by omega);have:u_2 (.int (lo + (j:Int))) ks.reverse=u_2 (.int (lo + (j:Int))) ks:=by
  rw [Bool.eq_iff_iff,aw_4 hn hk,aw_4 hn (fun k hk'=>hk k (List.mem_reverse.mp hk')),List.mem_reverse]
 rw [this]
structure Tw(A M:D)(s kind part:Int)(w:Nat)(T1 T2:List Int):Prop where
 pl:∀d,isKey d→i_0 [d, .int s, .int kind, .int part]= .ok (.sh (eT (c_2 d s kind part)))
 l1:∀d,∀p∈c_2 d s kind part,p < T1.length
 l2:∀d,∀p∈c_2 d s kind part,p < T2.length
 pn:∀d,(c_2 d s kind part).length≤1000
 mS:∀(fo:FE) (δ:DE),fo δ= .ok (.sh M)→d_2 "salt" 0 [("Marked",f_0)] fo aNil δ= .ok (.sh (.int s))
 mT:∀(fo:FE) (δ:DE),fo δ= .ok (.sh M)→d_2 "table" 0 [("Marked",e_6)] fo aNil δ= .ok (.ow (.lst (T2.map .int)))
 mP:∀(d:D),isKey d→∀(fo:FE) (fa:FA) (δ:DE),fo δ= .ok (.sh M)→fa δ= .ok [d]→d_2 "places" 1 [("Marked",e_7)] fo fa δ= .ok (.sh (eT (c_2 d s kind part)))
 mK:∀(d:D),isKey d→∀(fo:FE) (fa:FA) (δ:DE),fo δ= .ok (.sh M)→fa δ= .ok [d]→d_2 "knows" 1 [("Marked",b_6)] fo fa δ= .ok (.sh (.bl (decide (f_4 T2 (c_2 d s kind part) % 2 ^ w=n_5 (e_9 d) 3 (2 ^ w)))))
 kV:∀(d:D),isKey d→∀(fo:FE) (fa:FA) (δ:DE),fo δ= .ok (.sh A)→fa δ= .ok [d]→d_2 "value" 1 [("Kept",d_9)] fo fa δ= .ok (.sh (.int (f_4 T1 (c_2 d s kind part) % 2 ^ w)))
 kT:∀(fo:FE) (δ:DE),fo δ= .ok (.sh A)→d_2 "table" 0 [("Kept",i_1)] fo aNil δ= .ok (.ow (.lst (T1.map .int)))
def w_4(T:List Int)(s kind part m:Int)(n:Int):Bool:=decide (f_4 T (c_2 (.int n) s kind part) % m=n_5 (e_9 (.int n)) 3 m)
abbrev stG(A M:D)(ks ns:List D)(kind m part:Int)(L:List Int)(a8 a9 a10 a11:Sl):SE:= [.sh A, .sh M, .sh (.lst ks), .sh (.lst ns), .sh (.int kind), .sh (.int m), .sh (.int part), .ow (.lst (L.map .int)),a8,a9,a10,a11]
theorem dz_5(ps:List Nat):okD 1 (eT ps)=true:=by
 show(zi ps).all (okD 0)=true;exact da_6 0 (fun p:Nat=>(p:Int)) _
theorem dz_6(b:Bool):neD (.bl b) (.bl b)= .ok (.sh (.bl false)):=by cases b <;> rfl
theorem cg_6{A M:D}{ks ns:List D}{s kind part:Int}{w:Nat}{T1 T2 L:List Int}{n:Int}(H:Tw A M s kind part w T1 T2)(hk:∀k∈ks,isKey k)(hn:isKey (.int n))(hL:L.length < 16777216)(a9 a10 a11:Sl):
  ∃b9 b10 b11,o_8 (stG A M ks ns kind (2 ^ w) part L (.sh (.int n)) a9 a10 a11)= .nx (stG A M ks ns kind (2 ^ w) part (L ++ (if(!u_2 (.int n) ks && w_4 T2 s kind part (2 ^ w) n)=true then [n] else [])) (.sh (.int n)) b9 b10 b11):=by
 have pos:(0:Int) < 2 ^ w:=Int.pow_pos (by decide);have pl:=H.pl _ hn;have t1:=an_1 T1 _ (2 ^ w) pos (H.l1 (.int n)) (H.pn (.int n));have t2:=an_1 T2 _ (2 ^ w) pos (H.l2 (.int n)) (H.pn (.int n));have m2:g_0 (.int 2) (.int n)= .ok (.sh (.int (2 * n))):=e_0 (i_6 (by decide) (by decide));have mx:=(am_6 (e_9 (.int n)) 3 (2 ^ w) (by decide) (by decide) pos).2;have mx:k_3 [.int (2 * n), .int 3, .int (2 ^ w)]= .ok (.sh (.int (n_5 (e_9 (.int n)) 3 (2 ^ w)))):=mx;have ni:=by_5 hn hk;have np:=by_3 (d:=eT (c_2 (.int n) s kind part)) 1 (dz_5 _);have e1:=H.mS (eVar 1) [some A,some M,some (.lst ks),some (.lst ns),some (.int kind),some (.int (2 ^ w)),some (.int part),none,some (.int n),a9.pub,a10.pub,a11.pub] rfl;have s1:sSet 9 [1,4,6,8] (eFn 4 i_0 (aCons (eVar 8) (aCons (d_2 "salt" 0 [("Marked",f_0)] (eVar 1) aNil) (aCons (eVar 4) (aCons (eVar 6) aNil))))) (stG A M ks ns kind (2 ^ w) part L (.sh (.int n)) a9 a10 a11)= .nx (stG A M ks ns kind (2 ^ w) part L (.sh (.int n)) (.sh (eT (c_2 (.int n) s kind part))) a10 a11):=by
  simp_arith [evs,e1,pl]
 generalize hP:eT (c_2 (.int n) s kind part)=P at *
 have e2:=H.mT (eVar 1) [some A,some M,some (.lst ks),some (.lst ns),some (.int kind),some (.int (2 ^ w)),some (.int part),none,some (.int n),some P,a10.pub,a11.pub] rfl;have hz:w_4 T2 s kind part (2 ^ w) n=decide (f_4 T2 (c_2 (.int n) s kind part) % 2 ^ w=n_5 (e_9 (.int n)) 3 (2 ^ w)):=rfl;have kn:=H.mK _ hn (eVar 1) (aCons (eVar 8) aNil) [some A,some M,some (.lst ks),some (.lst ns),some (.int kind),some (.int (2 ^ w)),some (.int part),none,some (.int n),some P,some (.bl (w_4 T2 s kind part (2 ^ w) n)),a11.pub] rfl rfl;rw [←hz] at kn;have s2:sSet 10 [1,5,8,9] (eOp eqD (eFn 3 k_4 (aCons (d_2 "table" 0 [("Marked",e_6)] (eVar 1) aNil) (aCons (eVar 9) (aCons (eVar 5) aNil)))) (eFn 3 k_3 (aCons (eOp g_0 (eC (.int 2)) (eVar 8)) (aCons (eC (.int 3)) (aCons (eVar 5) aNil))))) (stG A M ks ns kind (2 ^ w) part L (.sh (.int n)) (.sh P) a10 a11)= .nx (stG A M ks ns kind (2 ^ w) part L (.sh (.int n)) (.sh P) (.sh (.bl (w_4 T2 s kind part (2 ^ w) n))) a11):=by
  rw [hz]
  simp_arith [evs,e2,t2,m2,mx,f_2]
 generalize w_4 T2 s kind part (2 ^ w) n=b at *
 have s3:sSet 11 [1,8] (d_2 "knows" 1 [("Marked",b_6)] (eVar 1) (aCons (eVar 8) aNil)) (stG A M ks ns kind (2 ^ w) part L (.sh (.int n)) (.sh P) (.sh (.bl b)) a11)= .nx (stG A M ks ns kind (2 ^ w) part L (.sh (.int n)) (.sh P) (.sh (.bl b)) (.sh (.bl b))):=by
  have kn:d_2 "knows" 1 [("Marked",b_6)] (eVar 1) (aCons (eVar 8) aNil) (vsh (stG A M ks ns kind (2 ^ w) part L (.sh (.int n)) (.sh P) (.sh (.bl b)) a11))= .ok (.sh (.bl b)):=kn;unfold sSet;rw [kn];rfl
 have e4:=H.mP _ hn (eVar 1) (aCons (eVar 8) aNil) (vall (stG A M ks ns kind (2 ^ w) part L (.sh (.int n)) (.sh P) (.sh (.bl b)) (.sh (.bl b)))) rfl rfl;rw [hP] at e4;have p4:tOrF (tNotF (eTruth (eIs "bool" (eVar 11)))) (tOrF (eTest (eOp neD (eVar 11) (eVar 10))) (eTest (eOp neD (d_2 "places" 1 [("Marked",e_7)] (eVar 1) (aCons (eVar 8) aNil)) (eVar 9)))) (vall (stG A M ks ns kind (2 ^ w) part L (.sh (.int n)) (.sh P) (.sh (.bl b)) (.sh (.bl b))))= .ok false:=by
  have nb:=dz_6 b;simp only [vall,List.map_cons,List.map_nil,ay_6,ce_2] at e4
  simp_arith [evs,nb,e4,np]
 have e5:=H.kV _ hn (eVar 0) (aCons (eVar 8) aNil) (vall (stG A M ks ns kind (2 ^ w) part L (.sh (.int n)) (.sh P) (.sh (.bl b)) (.sh (.bl b)))) rfl rfl;have e6:=H.kT (eVar 0) (vall (stG A M ks ns kind (2 ^ w) part L (.sh (.int n)) (.sh P) (.sh (.bl b)) (.sh (.bl b)))) rfl;have p5:eTest (eOp neD (d_2 "value" 1 [("Kept",d_9)] (eVar 0) (aCons (eVar 8) aNil)) (eFn 3 k_4 (aCons (d_2 "table" 0 [("Kept",i_1)] (eVar 0) aNil) (aCons (eVar 9) (aCons (eVar 5) aNil))))) (vall (stG A M ks ns kind (2 ^ w) part L (.sh (.int n)) (.sh P) (.sh (.bl b)) (.sh (.bl b))))= .ok false:=by
  have q:=dj_4 (f_4 T1 (c_2 (.int n) s kind part) % 2 ^ w) (f_4 T1 (c_2 (.int n) s kind part) % 2 ^ w);simp only [vall,List.map_cons,List.map_nil,ay_6,ce_2] at e5 e6
  simp_arith [evs,e5,e6,t1,q]
 have ift:∀(js:List Nat) (p:FT) (g:FS) (Δ:SE),p (vall Δ)= .ok false→sIf js p g sNil Δ= .nx Δ:=fun js p g Δ e=>by
  unfold sIf;rw [e];simp only [Bool.false_eq_true,if_false];rfl
 refine⟨.sh P, .sh (.bl b), .sh (.bl b), ?_⟩
 ·unfold o_8;rw [a_9 s1,a_9 s2,a_9 s3,a_9 (ift _ _ _ _ p4),a_9 (ift _ _ _ _ p5)];have hl:(L.map D.int).length < 16777216:=by rw [List.length_map];exact hL
  cases b with
  |false=>simp_arith [evs,Bool.and_false]
  |true=>
   cases hb:u_2 (.int n) ks with
   |true=>
    rw [hb] at ni
    simp_arith [evs,ni]
   |false=>
    rw [hb] at ni;have hap:(L ++ [n]).map D.int=L.map D.int ++ [.int n]:=by rw [List.map_append];rfl
    simp_arith [evs,ni,sApp,hl,Bool.and_true]
    unfold stG;rw [hap]
theorem dd_9{A M:D}{ks:List D}{s kind part:Int}{w:Nat}{T1 T2:List Int}(H:Tw A M s kind part w T1 T2)(hk:∀k∈ks,isKey k)(hkl:ks.length≤200)(hkd:kind=2∨kind=3)(hpt:part=d_0 (ks.length:Int) kind){lo:Int}{n:Nat}(h0:0≤lo)(h1:lo + (n:Int)≤1000000000000000000)(h2:n≤2000):
  q_7 [A,M, .lst ks, .lst (b_5 lo n), .int kind, .int (2 ^ w)]= .ok (.ow (.lst ((dueL ks (w_4 T2 s kind part (2 ^ w)) lo n).map .int))):=by
 obtain⟨_,p2,_,_⟩:=af_0 (ks.length:Int) kind (by omega) (by omega) hkd;rw [←hpt] at p2;obtain⟨Δ',e,a8,a9,a10,a11,rfl⟩:=v_1 (gV 8) o_8 (fun k Δ=>∃a8 a9 a10 a11,Δ=stG A M ks (b_5 lo n) kind (2 ^ w) part (dueL ks (w_4 T2 s kind part (2 ^ w)) lo k) a8 a9 a10 a11) (n:=n) (lo:=lo) (Δ:=stG A M ks (b_5 lo n) kind (2 ^ w) part [] .no .no .no .no) ⟨_,_,_,_,rfl⟩ (fun k Δ hk' hI=>by
  obtain⟨a8,a9,a10,a11,rfl⟩:=hI;have hn:isKey (.int (lo + (k:Int))):=bq_7 (by omega) (by omega);have hl:=dd_7 ks (w_4 T2 s kind part (2 ^ w)) lo k;obtain⟨b9,b10,b11,g⟩:=cg_6 (ns:=b_5 lo n) H hk hn (L:=dueL ks (w_4 T2 s kind part (2 ^ w)) lo k) (by omega) a9 a10 a11;rw [←cs_0] at g;exact⟨_,rfl,_, .inl g,_,_,_,_,rfl⟩)
 refine r_4 ?_;unfold as_4;have q1:sSet 6 [2,4] (eFn 2 p_8 (aCons (eCall h_6 (aCons (eVar 2) aNil)) (aCons (eVar 4) aNil))) (start3 12 [A,M, .lst ks, .lst (b_5 lo n), .int kind, .int (2 ^ w)])= .nx [.sh A, .sh M, .sh (.lst ks), .sh (.lst (b_5 lo n)), .sh (.int kind), .sh (.int (2 ^ w)), .sh (.int part), .no, .no, .no, .no, .no]:=by
  simp_arith [evs,m_7,p2]
 have q2:sSet 7 [] (eLst aNil) [.sh A, .sh M, .sh (.lst ks), .sh (.lst (b_5 lo n)), .sh (.int kind), .sh (.int (2 ^ w)), .sh (.int part), .no, .no, .no, .no, .no]= .nx (stG A M ks (b_5 lo n) kind (2 ^ w) part [] .no .no .no .no):=rfl;have q3:g_1 [3] (iOf (eVar 3)) (gV 8) o_8 (stG A M ks (b_5 lo n) kind (2 ^ w) part [] .no .no .no .no)= .nx (stG A M ks (b_5 lo n) kind (2 ^ w) part (dueL ks (w_4 T2 s kind part (2 ^ w)) lo n) a8 a9 a10 a11):=by
  have e1:iOf (eVar 3) (vsh (stG A M ks (b_5 lo n) kind (2 ^ w) part [] .no .no .no .no))= .ok (b_5 lo n):=rfl;unfold g_1;rw [e1];exact e
 rw [a_9 q1,a_9 q2,a_9 q3];rfl
theorem cl_5(T:List Int)(k:Nat):okD (k + 1) (.lst (T.map .int))=true:=by
 show((T.map D.int).all (okD k))=true;rw [List.all_map];exact List.all_eq_true.mpr fun _ _=>by cases k <;> rfl
theorem ad_9{fg:FGc}{f:FE}{δ:DE}:∀(ds rs:List D),ds.length=rs.length→(∀(i:Nat) (d:D),ds[i]? =some d→∃(δ1:DE) (w:W),fg d δ= .ok δ1∧f δ1= .ok w∧rs[i]? =some w.d)→n_0 fg (fun _=> .ok true) f δ ds= .ok rs
 | [],rs,hl,_=>by
  cases rs with
  |nil=>rfl
  |cons _ _=>simp at hl
 |d::ds,rs,hl,h=>by
  cases rs with
  |nil=>simp at hl
  |cons r rs=>
   obtain⟨δ1,w,e1,e2,e3⟩:=h 0 d rfl;have ih:=ad_9 ds rs (by simpa using hl) fun i d hi=>h (i + 1) d hi;have e4:r=w.d:=Option.some.inj e3;show((fg d δ).bind fun δ1=>(R.ok true).bind fun b=>if b=true then(f δ1).bind fun w=>(n_0 fg (fun _=> .ok true) f δ ds).bind fun rs=> .ok (w.d::rs) else n_0 fg (fun _=> .ok true) f δ ds)=_;rw [e1];simp only [R.bind_ok,if_true,e2];rw [ih];simp only [R.bind_ok,e4]
theorem bq_8{op:D→D→R W}{f g:FE}{δ:DE}{a b:W}(h1:f δ= .ok a)(h2:g δ= .ok b):eOp op f g δ=op a.d b.d:=by
 unfold eOp;rw [h1];simp only [R.bind_ok,h2]
section
variable{ks V:List D}{w kind most ai:Int}
abbrev stM(ks V:List D)(w kind most ai:Int)(a:Sl):SE:= [.sh (.int ai), .sh (.lst ks), .sh (.lst V), .sh (.int w), .sh (.int kind), .sh (.int most),a]
theorem cl_6(h:g_7 (stM ks V w kind most ai (.sh .non))= .ex xNoTry (stM ks V w kind most ai (.sh .non))):d_4 [.int ai, .lst ks, .lst V, .int w, .int kind, .int most]= .ok (.sh .non):=by
 have t1:sSet 6 [] (eC .non) (start3 7 [.int ai, .lst ks, .lst V, .int w, .int kind, .int most])= .nx (stM ks V w kind most ai (.sh .non)):=rfl;have l1:([("NoBits",false),("NoKey",false),("NoKeys",false),("NoRange",false),("NoTry",true),("NoValue",false),("Twice",false)]:List (Str×Bool)).lookup xNoTry.c=some true:=by decide +kernel
 have t2:ay_8 g_7 [⟨none, [("NoBits",false),("NoKey",false),("NoKeys",false),("NoRange",false),("NoTry",true),("NoValue",false),("Twice",false)],aa_8⟩] (stM ks V w kind most ai (.sh .non))= .nx (stM ks V w kind most ai (.sh .non)):=by
  unfold ay_8;simp only [h,tryH,l1,hdGo];rfl
 refine r_4 ?_;unfold ai_5;rw [a_9 t1,a_9 t2];rfl
theorem ca_1{M:D}(h:g_7 (stM ks V w kind most ai (.sh .non))= .nx (stM ks V w kind most ai (.sh M))):d_4 [.int ai, .lst ks, .lst V, .int w, .int kind, .int most]= .ok (.sh M):=by
 have t1:sSet 6 [] (eC .non) (start3 7 [.int ai, .lst ks, .lst V, .int w, .int kind, .int most])= .nx (stM ks V w kind most ai (.sh .non)):=rfl;have t2:ay_8 g_7 [⟨none, [("NoBits",false),("NoKey",false),("NoKeys",false),("NoRange",false),("NoTry",true),("NoValue",false),("Twice",false)],aa_8⟩] (stM ks V w kind most ai (.sh .non))= .nx (stM ks V w kind most ai (.sh M)):=by
  unfold ay_8;simp only [h]
 refine r_4 ?_;unfold ai_5;rw [a_9 t1,a_9 t2];rfl
end
theorem ca_2{s kind part m:Int}{T:List Int}(s0:0≤s)(s1:s≤1000000000000)(hk:kind=2∨kind=3)(p0:0 < part)(p1:part≤2000)(hm:0 < m)(hT:(T.length:Int)=kind * part){d:D}(hd:isKey d):
  f_9 [d, .int s, .int kind, .int part]= .ok (.sh (eT (c_2 d s kind part)))∧i_0 [d, .int s, .int kind, .int part]= .ok (.sh (eT (c_2 d s kind part)))∧b_7 [f_5 s kind part m T,d]= .ok (.sh (.int (f_4 T (c_2 d s kind part) % m)))∧(∀p∈c_2 d s kind part,p < T.length):=by
 obtain⟨q1,q2⟩:=bi_6 hd s kind part s0 s1 hk p0 p1;rw [ba_1 d s kind part p0] at q1 q2;have hb:∀p∈c_2 d s kind part,p < T.length:=fun p hp=>by
  have:=ai_8 d s kind part p0 (by omega) p hp;omega
 exact⟨q1,q2,cr_2 hm q1 hb (by rw [x_4];omega),hb⟩
theorem dm_3{N:Nat}(h:N≤40){kind:Int}(hk:kind=2∨kind=3):d_0 (N:Int) kind≤50:=by
 unfold d_0;rcases hk with rfl|rfl
 ·rw [if_pos (by decide)];omega
 ·rw [if_neg (by decide)];omega
section
variable{ks:List D}{kind most:Int}{w:Nat}
theorem k_no(h:Ks ks 0 kind)(hw:w≤100){vs:List Int}(hl:vs.length=ks.length)(hb:∀v∈vs,0≤v∧v < 2 ^ w)(e:c_0 [.lst ks, .int kind, .int most]= .ex xNoTry):d_4 [.int 0, .lst ks, .lst (vs.map .int), .int (w:Int), .int kind, .int most]= .ok (.sh .non):=by
 refine cl_6 ?_
 simp_arith [g_7,evs,f_2,ab_3,dl_9 h w hw hl hb e,exG]
theorem dn_9{V:List D}{p:List Str×List D}(e:aa_6 [.lst ks, .lst V, .int (w:Int), .int kind, .int most]= .ok p):d_4 [.int 0, .lst ks, .lst V, .int (w:Int), .int kind, .int most]= .ok (.sh (.obj "Kept" p.1 p.2)):=by
 refine ca_1 ?_
 simp_arith [g_7,evs,f_2,ab_3,e]
theorem m_no{V:List D}(e:c_0 [.lst ks, .int kind, .int most]= .ex xNoTry):d_4 [.int 1, .lst ks, .lst V, .int (w:Int), .int kind, .int most]= .ok (.sh .non):=by
 refine cl_6 ?_;have z:¬((1:Int)=0):=by decide
 simp_arith [g_7,evs,f_2,z,ab_3,cr_3 w e,exG]
theorem do_0{V:List D}{p:List Str×List D}(e:r_8 [.lst ks, .int (w:Int), .int kind, .int most]= .ok p):d_4 [.int 1, .lst ks, .lst V, .int (w:Int), .int kind, .int most]= .ok (.sh (.obj "Marked" p.1 p.2)):=by
 refine ca_1 ?_;have z:¬((1:Int)=0):=by decide
 simp_arith [g_7,evs,f_2,z,ab_3,e]
theorem dz_9(h:Ks ks 0 kind)(hm0:1≤most)(hm1:most≤100)(hw:w≤100){vs:List Int}(hl:vs.length=ks.length)(hb:∀v∈vs,0≤v∧v < 2 ^ w):∃x,d_4 [.int 0, .lst ks, .lst (vs.map .int), .int (w:Int), .int kind, .int most]= .ok (.sh x):=by
 rcases ba_2 h most (by omega) (by omega) with⟨e,_⟩|⟨s,hs,e,e2,_⟩
 ·exact⟨_,k_no h hw hl hb e⟩
 ·obtain⟨T,_,_,_,e⟩:=bj_5 h w hw hl hb (by omega) e e2;exact⟨_,dn_9 e⟩
theorem ea_0(h:Ks ks 0 kind)(hm0:1≤most)(hm1:most≤100)(hw:w≤100)(V:List D):∃x,d_4 [.int 1, .lst ks, .lst V, .int (w:Int), .int kind, .int most]= .ok (.sh x):=by
 rcases ba_2 h most (by omega) (by omega) with⟨e,_⟩|⟨s,hs,e,e2,_⟩
 ·exact⟨_,m_no e⟩
 ·obtain⟨T,_,_,_,e⟩:=at_1 h w hw (by omega) e e2;exact⟨_,do_0 e⟩
theorem both(h:Ks ks 0 kind)(hn:ks.length≤40)(hm0:1≤most)(hm1:most≤100)(hw0:1≤w)(hw:w≤100){vs:List Int}(hl:vs.length=ks.length)(hb:∀v∈vs,0≤v∧v < 2 ^ w):
  (d_4 [.int 0, .lst ks, .lst (vs.map .int), .int (w:Int), .int kind, .int most]= .ok (.sh .non)∧d_4 [.int 1, .lst ks, .lst (vs.map .int), .int (w:Int), .int kind, .int most]= .ok (.sh .non))∨
  ∃(s:Int) (T1 T2:List Int) (n1 n2 n3:List Str) (v1 v2 v3 Z:List D),d_4 [.int 0, .lst ks, .lst (vs.map .int), .int (w:Int), .int kind, .int most]= .ok (.sh (.obj "Kept" n1 v1))∧d_4 [.int 1, .lst ks, .lst (vs.map .int), .int (w:Int), .int kind, .int most]= .ok (.sh (.obj "Marked" n2 v2))∧
   Tw (.obj "Kept" n1 v1) (.obj "Marked" n2 v2) s kind (d_0 (ks.length:Int) kind) w T1 T2∧(∀(i:Nat) (d:D),ks[i]? =some d→f_4 T1 (c_2 d s kind (d_0 (ks.length:Int) kind)) % 2 ^ w=vs.getD i 0)∧(∀(i:Nat) (d:D),ks[i]? =some d→f_4 T2 (c_2 d s kind (d_0 (ks.length:Int) kind)) % 2 ^ w=n_5 (e_9 d) 3 (2 ^ w))∧
   l_0 [.obj "Marked" n2 v2]= .ok (.sh (.tup Z))∧i_2 [.tup Z]= .ok (.sh (.obj "MarkedAgain" n3 v3))∧
   ∀(M:D),M= .obj "Marked" n2 v2∨M= .obj "MarkedAgain" n3 v3→∀(n:Int),isKey (.int n)→∀(fo:FE) (fa:FA) (δ:DE),fo δ= .ok (.sh M)→fa δ= .ok [.int n]→d_2 "knows" 1 [("Marked",b_6),("MarkedAgain",c_5)] fo fa δ= .ok (.sh (.bl (w_4 T2 s kind (d_0 (ks.length:Int) kind) (2 ^ w) n))):=by
 have h1:=h.h1;have pos:(0:Int) < 2 ^ w:=Int.pow_pos (by decide);have hkd:2≤kind∧kind≤3:=by rcases h.kd with z|z <;> omega
 obtain⟨p1,_,p3,p4⟩:=af_0 (ks.length:Int) kind (by omega) (by omega) h.kd;have hle:kind * d_0 (ks.length:Int) kind≤3 * 50:=Int.mul_le_mul hkd.2 (dm_3 hn h.kd) (by omega) (by omega);rcases ba_2 h most (by omega) (by omega) with⟨e,_⟩|⟨s,hs,e,e2,_⟩
 ·exact .inl ⟨k_no h hw hl hb e,m_no e⟩
 ·obtain⟨T1,t1,b1,c1,e3⟩:=bj_5 h w hw hl hb (by omega) e e2;obtain⟨T2,t2,b2,c2,e4⟩:=at_1 h w hw (by omega) e e2;have f1:=fun d (hd:isKey d)=>ca_2 (s:=(s:Int)) (m:=2 ^ w) (by omega) (by omega) h.kd p3 p4 pos t1 hd;have f2:=fun d (hd:isKey d)=>ca_2 (s:=(s:Int)) (m:=2 ^ w) (by omega) (by omega) h.kd p3 p4 pos t2 hd;have hh:=bj_7 (ks.length:Int) (s:Int) kind (d_0 (ks.length:Int) kind) (2 ^ w) (w:Int) T2;have bd:∀d,∀p∈c_2 d (s:Int) kind (d_0 (ks.length:Int) kind),(p:Int) < kind * d_0 (ks.length:Int) kind:=fun d p hp=>by
   have:=ai_8 d (s:Int) kind (d_0 (ks.length:Int) kind) p3 (by omega) p hp;omega
  have r2:=fun d (hd:isKey d)=>cg_5 (n:=(ks.length:Int)) (w:=(w:Int)) (f2 d hd).2.2.1 (bq_3 hd w hw);have r3:=fun d (hd:isKey d)=>au_3 (n:=(ks.length:Int)) (w:=(w:Int)) (f2 d hd).2.2.1 (bq_3 hd w hw);refine .inr ⟨(s:Int),T1,T2,_,_,_,_,_,_,_,dn_9 e3,do_0 e4,⟨fun d hd=>(f1 d hd).2.1,fun d p hp=>by have:=bd d p hp;omega,fun d p hp=>by have:=bd d p hp;omega,fun d=>by rw [x_4];omega,hh.salt,hh.tab,fun d hd fo fa δ g1 g2=>(metX rfl (by kernel_rfl) (by kernel_rfl) fo fa δ [d] g1 g2 rfl).trans (cg_3 (ks.length:Int) (s:Int) kind (d_0 (ks.length:Int) kind) (2 ^ w) (w:Int) T2 (f2 d hd).1),fun d hd fo fa δ g1 g2=>(metX rfl (by kernel_rfl) (by kernel_rfl) fo fa δ [d] g1 g2 rfl).trans (r2 d hd),fun d hd fo fa δ g1 g2=>(metX rfl (by kernel_rfl) (by kernel_rfl) fo fa δ [d] g1 g2 rfl).trans (dd_4 (n:=(ks.length:Int)) (w:=(w:Int)) (f1 d hd).2.2.1),dd_2 (ks.length:Int) (s:Int) kind (d_0 (ks.length:Int) kind) (2 ^ w) (w:Int) T1⟩,c1,c2,cr_6 (dm_1 hh "marked" "" w (by omega) (by omega) b2),du_7 (by omega) h.kd hw0 hw (by omega) b2, ?_⟩;intro M hM n hnk fo fa δ g1 g2;rcases hM with rfl|rfl
  ·exact(metX rfl (by kernel_rfl) (by kernel_rfl) fo fa δ [.int n] g1 g2 rfl).trans (r2 (.int n) hnk)
  ·exact(metX rfl (by kernel_rfl) (by kernel_rfl) fo fa δ [.int n] g1 g2 rfl).trans (r3 (.int n) hnk)
end
theorem ca_3{n k:Nat}{d:D}(e:(b_5 0 n)[k]? =some d):d= .int (k:Int)∧k < n:=by
 unfold b_5 at e;rw [List.getElem?_map] at e
 by_cases hk:k < n
 ·rw [List.getElem?_range hk] at e;simp only [Option.map_some,Int.zero_add,Option.some.injEq] at e;exact⟨e.symm,hk⟩
 ·rw [List.getElem?_eq_none (by simp;omega)] at e;cases e
theorem cl_7(ns:List Int):neD (.lst (ns.map .int)) (.lst (ns.map .int))= .ok (.sh (.bl false)):=by_3 1 (cl_5 ns 0)
theorem ifF(js:List Nat)(p:FT)(g:FS)(Δ:SE)(e:p (vall Δ)= .ok false):sIf js p g sNil Δ= .nx Δ:=by
 unfold sIf;rw [e];simp only [Bool.false_eq_true,if_false];rfl
theorem orF{p q:FT}{δ:DE}(h1:p δ= .ok false)(h2:q δ= .ok false):tOrF p q δ= .ok false:=by
 unfold tOrF;rw [h1];simp only [R.bind_ok,Bool.false_eq_true,if_false];exact h2
theorem neF{f g:FE}{δ:DE}{a b:W}(h1:f δ= .ok a)(h2:g δ= .ok b)(h:neD a.d b.d= .ok (.sh (.bl false))):eTest (eOp neD f g) δ= .ok false:=by
 unfold eTest;rw [bq_8 h1 h2,h];rfl
theorem aC{f:FE}{fa:FA}{δ:DE}{w:W}{ds:List D}(h1:f δ= .ok w)(h2:fa δ= .ok ds):aCons f fa δ= .ok (w.d::ds):=by
 unfold aCons;rw [h1];simp only [R.bind_ok,h2]
theorem eF{n:Nat}{F:List D→R W}{fa:FA}{δ:DE}{ds:List D}(h:fa δ= .ok ds)(hl:ds.length=n):eFn n F fa δ=F ds:=by
 unfold eFn;rw [h];simp only [R.bind_ok,hl,if_true]
abbrev h_3(nsD:D)(zs:List Int)(ks:List D)(w:Nat)(b5:Sl)(kd most:Int)(a8 a9 a10 a11 a12 a13 a14:Sl):SE:= [.sh nsD, .sh (.lst (zs.map .int)), .sh (.lst ks), .sh (.int (w:Int)), .sh (.int (2 ^ w)),b5, .sh (.int kd), .sh (.int most),a8,a9,a10,a11,a12,a13,a14]
theorem cl_8{A M:D}{zs vs:List Int}{ks:List D}{w:Nat}{s kind part:Int}{T1 T2:List Int}(H:Tw A M s kind part w T1 T2)(hk:∀k∈ks,isKey k)(hl:vs.length=ks.length)(hn:ks.length≤40)(c1:∀(i:Nat) (d:D),ks[i]? =some d→f_4 T1 (c_2 d s kind part) % 2 ^ w=vs.getD i 0){f:FE}(hf:f=d_2 "value" 1 [("Kept",d_9)] (eVar 9) (aCons (eVar 15) aNil))(δ:DE)(hδ:δ.length=15)(h2:eVar 2 δ= .ok (.sh (.lst ks)))(h9:∀d,eVar 9 (δ ++ [some d])= .ok (.sh A))(h15:∀d,eVar 15 (δ ++ [some d])= .ok (.sh d)):
  c_1 1 (iOf (eVar 2)) (gC 15) (fun _=> .ok true) f δ= .ok (.ow (.lst (vs.map .int))):=by
 have hi:iOf (eVar 2) δ= .ok ks:=by
  unfold iOf;rw [h2];rfl
 refine g_4 (ds:=ks) hi (by omega) (ad_9 ks (vs.map .int) (by rw [List.length_map,hl]) fun i d hd=> ?_);have hil:=(List.getElem?_eq_some_iff.mp hd).1;refine⟨δ ++ [some d], .sh (.int (vs.getD i 0)), ?_, ?_, ?_⟩
 ·show gC 15 d (δ ++ [none])=_;unfold gC;simp only [List.getElem?_append_right (show δ.length≤15 by omega),hδ,Nat.sub_self,List.getElem?_cons_zero];rw [List.set_append_right _ _ (by omega),hδ];rfl
 ·rw [hf,←c1 i d hd];exact H.kV d (hk d (List.mem_of_getElem? hd)) (eVar 9) (aCons (eVar 15) aNil) _ (h9 d) (aC (h15 d) rfl)
 ·rw [List.getElem?_map,List.getD_eq_getElem?_getD,List.getElem?_eq_getElem (by omega:i < vs.length)];rfl
theorem ca_4:isKey (.str "another"):= .inr ⟨[97,110,111,116,104,101,114],rfl,by decide,by decide⟩
theorem du_8{d:D}(h:isKey d):∃b:Bool,(b=true↔d≠ .str "another")∧neD d (.str "another")= .ok (.sh (.bl b)):=by
 rcases h with⟨n,rfl,_⟩|⟨l,rfl,hl,hc⟩
 ·exact⟨true,by simp,by kernel_rfl⟩
 ·have e:neD (.str (mkS l)) (.str "another")= .ok (.sh (.bl (!decide (mkS l= "another")))):=cj_8 _ _;refine⟨_, ?_,e⟩;simp
theorem dm_4{nsD:D}{zs vs:List Int}{ks:List D}{w:Nat}{b5:Sl}{kd most s:Int}{T1 T2:List Int}{n1 n2 n3:List Str}{v1 v2 v3 Z:List D}(hz:zs.length=130)(hzb:∀z∈zs,0≤z∧z < 2147483587)(h:Ks ks 0 kd)(hn:ks.length≤30)(hm0:1≤most)(hm1:most≤100)(hw0:1≤w)(hw:w≤30)(hl:vs.length=ks.length)(hb:∀v∈vs,0≤v∧v < 2 ^ w)
  (H:Tw (.obj "Kept" n1 v1) (.obj "Marked" n2 v2) s kd (d_0 (ks.length:Int) kd) w T1 T2) (c1:∀(i:Nat) (d:D),ks[i]? =some d→f_4 T1 (c_2 d s kd (d_0 (ks.length:Int) kd)) % 2 ^ w=vs.getD i 0) (c2:∀(i:Nat) (d:D),ks[i]? =some d→f_4 T2 (c_2 d s kd (d_0 (ks.length:Int) kd)) % 2 ^ w=n_5 (e_9 d) 3 (2 ^ w))
  (ht:l_0 [.obj "Marked" n2 v2]= .ok (.sh (.tup Z))) (ha:i_2 [.tup Z]= .ok (.sh (.obj "MarkedAgain" n3 v3)))
  (kn:∀(M:D),M= .obj "Marked" n2 v2∨M= .obj "MarkedAgain" n3 v3→∀(n:Int),isKey (.int n)→∀(fo:FE) (fa:FA) (δ:DE),fo δ= .ok (.sh M)→fa δ= .ok [.int n]→d_2 "knows" 1 [("Marked",b_6),("MarkedAgain",c_5)] fo fa δ= .ok (.sh (.bl (w_4 T2 s kd (d_0 (ks.length:Int) kd) (2 ^ w) n)))):
  (sSeq al_6 (sSeq az_5 (sSeq al_7 (sSeq y_9 (sSeq al_8 (sSeq al_9 (sSeq az_6 (sSeq am_0 (sSeq am_1 (sSeq az_7 (sSeq am_2 am_3))))))))))) (h_3 nsD zs ks w b5 kd most (.sh (.lst (vs.map .int))) (.sh (.obj "Kept" n1 v1)) (.sh (.obj "Marked" n2 v2)) .no .no .no .no)= .rt (.sh (.bl true)):=by
 have pos:(0:Int) < 2 ^ w:=Int.pow_pos (by decide);have h1:=h.h1;have t11:al_6 (h_3 nsD zs ks w b5 kd most (.sh (.lst (vs.map .int))) (.sh (.obj "Kept" n1 v1)) (.sh (.obj "Marked" n2 v2)) .no .no .no .no)= .nx (h_3 nsD zs ks w b5 kd most (.sh (.lst (vs.map .int))) (.sh (.obj "Kept" n1 v1)) (.sh (.obj "Marked" n2 v2)) .no .no .no .no):=rfl;generalize D.obj "Kept" n1 v1=A at *
 generalize hM:D.obj "Marked" n2 v2=M at *
 generalize hM':D.obj "MarkedAgain" n3 v3=M' at *
 have i3:ixD (.lst (zs.map .int)) (.int 3)= .ok (.sh (.int (zs.getD 3 0))):=t_1 (Q:=zs) (j:=3) (by omega);have b3:0≤zs.getD 3 0∧zs.getD 3 0 < 2147483587:=by
  rw [List.getD_eq_getElem?_getD,List.getElem?_eq_getElem (by omega:3 < zs.length)];exact hzb _ (List.getElem_mem _)
 generalize zs.getD 3 0=z3 at *
 have nv:=cl_7 vs;have p12:tOrF (eTest (eOp neD (c_1 1 (iOf (eVar 2)) (gC 15) (fun _=> .ok true) ck_6) (eVar 8))) (eTest (eOp neD (c_1 1 (iOf (eVar 2)) (gC 15) aw_2 (eVar 15)) (eLst aNil))) (vall (h_3 nsD zs ks w b5 kd most (.sh (.lst (vs.map .int))) (.sh A) (.sh M) .no .no .no .no))= .ok false:=by
  refine orF (neF (b:= .sh (.lst (vs.map .int))) (cl_8 (zs:=zs) H h.k hl (by omega) c1 rfl _ rfl rfl (fun _=>rfl) (fun _=>rfl)) rfl nv) (neF (a:= .ow (.lst [])) (b:= .ow (.lst [])) ?_ rfl rfl);refine g_4 (ds:=ks) rfl (by omega) ?_;have hcl:=s_6 (fg:=gC 15) (p:=aw_2) (f:=eVar 15) (δ:=vall (h_3 nsD zs ks w b5 kd most (.sh (.lst (vs.map .int))) (.sh A) (.sh M) .no .no .no .no) ++ List.replicate 1 none) (fun _=>false) (fun d=>d) ks (fun d hd=>by
   obtain⟨i,hi⟩:=List.getElem?_of_mem hd;have e:=H.mK d (h.k d hd) (eVar 10) (aCons (eVar 15) aNil) [some nsD,some (.lst (zs.map .int)),some (.lst ks),some (.int (w:Int)),some (.int (2 ^ w)),b5.any,some (.int kd),some (.int most),some (.lst (vs.map .int)),some A,some M,none,none,none,none,some d] rfl rfl;rw [c2 i d hi] at e;refine⟨[some nsD,some (.lst (zs.map .int)),some (.lst ks),some (.int (w:Int)),some (.int (2 ^ w)),b5.any,some (.int kd),some (.int most),some (.lst (vs.map .int)),some A,some M,none,none,none,none,some d],rfl, ?_,fun z=>absurd z Bool.false_ne_true⟩;unfold aw_2 eTest;rw [bq_8 (b:= .sh (.bl true)) e rfl];simp only [W.d_sh,decide_true];rfl)
  rw [List.filter_eq_nil_iff.mpr (fun _ _=>by simp)] at hcl;exact hcl
 have t12:az_5 (h_3 nsD zs ks w b5 kd most (.sh (.lst (vs.map .int))) (.sh A) (.sh M) .no .no .no .no)= .nx (h_3 nsD zs ks w b5 kd most (.sh (.lst (vs.map .int))) (.sh A) (.sh M) .no .no .no .no):=ifF _ _ _ _ p12;have mb:g_0 (.int (z3 / 400)) (.int 180000000000)= .ok (.sh (.int (z3 / 400 * 180000000000))):=e_0 (ac_8 (by decide) (by decide));have t13:al_7 (h_3 nsD zs ks w b5 kd most (.sh (.lst (vs.map .int))) (.sh A) (.sh M) .no .no .no .no)= .nx (h_3 nsD zs ks w b5 kd most (.sh (.lst (vs.map .int))) (.sh A) (.sh M) (.sh (.int (z3 / 400 * 180000000000))) .no .no .no):=by
  simp_arith [al_7,evs,i3,m_4 (show(0:Int) < 400 by decide) (by decide),mb]
 obtain⟨lo,hlo0,hlo1,t14⟩:∃lo:Int,0≤lo∧lo≤999999999999999700∧y_9 (h_3 nsD zs ks w b5 kd most (.sh (.lst (vs.map .int))) (.sh A) (.sh M) (.sh (.int (z3 / 400 * 180000000000))) .no .no .no)= .nx (h_3 nsD zs ks w b5 kd most (.sh (.lst (vs.map .int))) (.sh A) (.sh M) (.sh (.int lo)) .no .no .no):=by
  obtain⟨d0,hd0⟩:∃d,ks[0]? =some d:=⟨_,List.getElem?_eq_getElem (by omega)⟩;have i0:ixD (.lst ks) (.int 0)= .ok (.sh d0):=ah_9 (am_4 hd0);have hk0:=h.k d0 (List.mem_of_getElem? hd0);have m2:=f_3 (i:=z3) (show(0:Int) < 2 by decide);have p18:=cy_7 (bw_1 (i:=10) (j:=18) (by decide) (by decide) (by decide) (by decide));have e18:(10:Int) ^ (18:Int).toNat=1000000000000000000:=by decide
  rw [e18] at p18
  by_cases hq:z3 % 2=0
  ·rcases hk0 with⟨n,rfl,g0,g1⟩|⟨l,rfl,_⟩
   ·refine⟨min n (1000000000000000000 - 300),by omega,by omega, ?_⟩
    simp_arith [y_9,evs,i3,m2,f_2,hq,i0,p18,aa_1,cy_8]
   ·refine⟨z3 / 400 * 180000000000,by omega,by omega, ?_⟩
    simp_arith [y_9,evs,i3,m2,f_2,hq,i0]
  ·refine⟨z3 / 400 * 180000000000,by omega,by omega, ?_⟩
   simp_arith [y_9,evs,i3,m2,f_2,hq]
 obtain⟨n,hn0,hn1,en⟩:∃n:Nat,1≤n∧n≤200∧lo + 1 + z3 / 2 % 200=lo + (n:Int):=⟨(1 + z3 / 2 % 200).toNat,by omega,by omega,by omega⟩;have t15:al_8 (h_3 nsD zs ks w b5 kd most (.sh (.lst (vs.map .int))) (.sh A) (.sh M) (.sh (.int lo)) .no .no .no)= .nx (h_3 nsD zs ks w b5 kd most (.sh (.lst (vs.map .int))) (.sh A) (.sh M) (.sh (.int lo)) (.ow (.lst (b_5 lo n))) .no .no):=by
  have er:rng2 [.int lo, .int (lo + (n:Int))]= .ok (b_5 lo n):=by
   rw [ck_1 (by omega) (by omega) (by omega) (by omega),show(lo + (n:Int) - lo).toNat=n by omega]
  have hlz:(b_5 lo n).length≤16777216:=by rw [l_9];omega
  have e:eRng rng2 (aCons (eVar 11) (aCons (eOp d_8 (eOp d_8 (eVar 11) (eC (.int 1))) (eOp j_0 (eOp v_4 (eOp ixD (eVar 1) (eC (.int 3))) (eC (.int 2))) (eC (.int 200)))) aNil)) (vsh (h_3 nsD zs ks w b5 kd most (.sh (.lst (vs.map .int))) (.sh A) (.sh M) (.sh (.int lo)) .no .no .no))= .ok (.ow (.lst (b_5 lo n))):=by
   unfold eRng
   simp_arith [evs,i3,e_5,m_4 (show(0:Int) < 2 by decide) (by decide),f_3 (show(0:Int) < 200 by decide),en,er,hlz]
  unfold al_8 sSet;rw [e];rfl
 have rg:=dd_9 H h.k h.h2 h.kd rfl (lo:=lo) (n:=n) hlo0 (by omega) (by omega);have t16:al_9 (h_3 nsD zs ks w b5 kd most (.sh (.lst (vs.map .int))) (.sh A) (.sh M) (.sh (.int lo)) (.ow (.lst (b_5 lo n))) .no .no)= .nx (h_3 nsD zs ks w b5 kd most (.sh (.lst (vs.map .int))) (.sh A) (.sh M) (.sh (.int lo)) (.sh (.lst (b_5 lo n))) (.ow (.lst ((dueL ks (w_4 T2 s kd (d_0 (ks.length:Int) kd) (2 ^ w)) lo n).map .int))) .no):=by
  simp_arith [al_9,evs,rg]
 have eh:lo + (n:Int) - 1 + 1 - lo=(n:Int):=by omega
 have mi:=fun(X:D) hX (js:List D) hj hd (hjl:js.length≤200)=>dm_2 (M:=X) (g:=w_4 T2 s kd (d_0 (ks.length:Int) kd) (2 ^ w)) (kn X hX) (ks:=js) hj hd hjl lo (lo + (n:Int) - 1) hlo0 (by omega) (by omega) (by omega) (by omega);simp only [eh,Int.toNat_natCast] at mi;have bh:∀k∈ks.reverse,isKey k:=fun k hk=>h.k k (List.mem_reverse.mp hk);have mi1:=mi M (.inl rfl) ks h.k h.nd h.h2;have mi2:=mi M' (.inr rfl) ks.reverse bh ((List.reverse_perm ks).nodup_iff.mpr h.nd) (by rw [List.length_reverse];exact h.h2);rw [dd_8 h.k _ lo n hlo0 (by omega)] at mi2;generalize dueL ks (w_4 T2 s kd (d_0 (ks.length:Int) kd) (2 ^ w)) lo n=L at *
 have nL:=cl_7 L;have eL:eqD (.lst (L.map .int)) (.lst (L.map .int))= .ok (.sh (.bl true)):=da_5 1 (cl_5 L 0);have p17:tOrF (eTest (eOp (isND false) (eVar 13) (eC .non))) (eTest (eOp neD (eFn 4 p_9 (aCons (eVar 10) (aCons (eCall r_0 (aCons (eVar 2) aNil)) (aCons (eVar 11) (aCons (eOp subD (eOp d_8 (eVar 11) (eCall h_6 (aCons (eVar 12) aNil))) (eC (.int 1))) aNil))))) (eVar 13))) (vall (h_3 nsD zs ks w b5 kd most (.sh (.lst (vs.map .int))) (.sh A) (.sh M) (.sh (.int lo)) (.sh (.lst (b_5 lo n))) (.ow (.lst (L.map .int))) .no))= .ok false:=by
  refine orF rfl ?_;have ak:r_0 [.lst ks]= .ok (.ow (.lst ks)):=rfl
  simp_arith [evs,m_7,l_9,e_5,aa_1,ak,mi1,nL]
 have t17:az_6 (h_3 nsD zs ks w b5 kd most (.sh (.lst (vs.map .int))) (.sh A) (.sh M) (.sh (.int lo)) (.sh (.lst (b_5 lo n))) (.ow (.lst (L.map .int))) .no)= .nx (h_3 nsD zs ks w b5 kd most (.sh (.lst (vs.map .int))) (.sh A) (.sh M) (.sh (.int lo)) (.sh (.lst (b_5 lo n))) (.ow (.lst (L.map .int))) .no):=ifF _ _ _ _ p17;have rv:∀(δ:DE),δ.length=15→eVar 2 δ= .ok (.sh (.lst ks))→c_1 1 (iRev (eVar 2)) (gC 15) (fun _=> .ok true) (eVar 15) δ= .ok (.ow (.lst ks.reverse)):=fun δ hδ h2=>by
  have hi:iRev (eVar 2) δ= .ok ks.reverse:=by
   unfold iRev;rw [h2];rfl
  refine g_4 (ds:=ks.reverse) hi (by rw [List.length_reverse];omega) (ad_9 _ _ rfl fun i d hd=>⟨δ ++ [some d], .sh d, ?_, ?_,hd⟩)
  ·show gC 15 d (δ ++ [none])=_;unfold gC;simp only [List.getElem?_append_right (show δ.length≤15 by omega),hδ,Nat.sub_self,List.getElem?_cons_zero];rw [List.set_append_right _ _ (by omega),hδ];rfl
  ·show(match(δ ++ [some d])[15]? with|some (some d)=>R.ok (W.sh d)|_=> .no)=_;rw [List.getElem?_append_right (by omega),hδ];rfl
 have hKr:Ks ks.reverse 0 kd:=⟨bh,(List.reverse_perm ks).nodup_iff.mpr h.nd,by rw [List.length_reverse];exact h.h1,by rw [List.length_reverse];exact h.h2,h.s0,h.s1,h.kd⟩;have t18:am_0 (h_3 nsD zs ks w b5 kd most (.sh (.lst (vs.map .int))) (.sh A) (.sh M) (.sh (.int lo)) (.sh (.lst (b_5 lo n))) (.ow (.lst (L.map .int))) .no)= .nx (h_3 nsD zs ks w b5 kd most (.sh (.lst (vs.map .int))) (.sh A) (.sh M) (.sh (.int lo)) (.sh (.lst (b_5 lo n))) (.ow (.lst (L.map .int))) .no):=by
  obtain⟨vs',hvs'⟩:∃v:List Int,v=vs.map fun v=>(v + 1) % 2 ^ w:=⟨_,rfl⟩;obtain⟨x,ex⟩:=dz_9 (w:=w) (most:=most) hKr hm0 hm1 (by omega) (vs:=vs') (by rw [hvs',List.length_map,List.length_reverse,hl]) (fun v hv=>by
   rw [hvs'] at hv;obtain⟨u,_,rfl⟩:=List.mem_map.mp hv;exact⟨Int.emod_nonneg _ (by omega),Int.emod_lt_of_pos _ pos⟩)
  have ev:c_1 1 (iOf (eVar 8)) (gC 15) (fun _=> .ok true) aw_3 (vall (h_3 nsD zs ks w b5 kd most (.sh (.lst (vs.map .int))) (.sh A) (.sh M) (.sh (.int lo)) (.sh (.lst (b_5 lo n))) (.ow (.lst (L.map .int))) .no))= .ok (.ow (.lst (vs'.map .int))):=by
   refine g_4 (ds:=vs.map .int) rfl (by rw [List.length_map];omega) (ad_9 _ _ (by rw [List.length_map,List.length_map,hvs',List.length_map]) fun i d hd=> ?_);rw [List.getElem?_map] at hd;obtain⟨v,hv,rfl⟩:=Option.map_eq_some_iff.mp hd;refine⟨[some nsD,some (.lst (zs.map .int)),some (.lst ks),some (.int (w:Int)),some (.int (2 ^ w)),b5.any,some (.int kd),some (.int most),some (.lst (vs.map .int)),some A,some M,some (.int lo),some (.lst (b_5 lo n)),some (.lst (L.map .int)),none,some (.int v)], .sh (.int ((v + 1) % 2 ^ w)),rfl, ?_, ?_⟩
   ·simp_arith [aw_3,evs,e_5,f_3 pos]
   ·rw [hvs',List.getElem?_map,List.getElem?_map,hv];rfl
  have e:eFn 6 d_4 (aCons (eC (.int 0)) (aCons (c_1 1 (iRev (eVar 2)) (gC 15) (fun _=> .ok true) (eVar 15)) (aCons (c_1 1 (iOf (eVar 8)) (gC 15) (fun _=> .ok true) aw_3) (aCons (eVar 3) (aCons (eVar 6) (aCons (eVar 7) aNil)))))) (vall (h_3 nsD zs ks w b5 kd most (.sh (.lst (vs.map .int))) (.sh A) (.sh M) (.sh (.int lo)) (.sh (.lst (b_5 lo n))) (.ow (.lst (L.map .int))) .no))= .ok (.sh x):=
   (eF (aC (w:= .sh (.int 0)) rfl (aC (rv _ rfl rfl) (aC ev (aC (w:= .sh (.int (w:Int))) rfl (aC (w:= .sh (.int kd)) rfl (aC (w:= .sh (.int most)) rfl rfl)))))) rfl).trans ex
  unfold am_0 sExpr;rw [e]
 have t19:am_1 (h_3 nsD zs ks w b5 kd most (.sh (.lst (vs.map .int))) (.sh A) (.sh M) (.sh (.int lo)) (.sh (.lst (b_5 lo n))) (.ow (.lst (L.map .int))) .no)= .nx (h_3 nsD zs ks w b5 kd most (.sh (.lst (vs.map .int))) (.sh A) (.sh M) (.sh (.int lo)) (.sh (.lst (b_5 lo n))) (.ow (.lst (L.map .int))) .no):=by
  have hf0:∀d,∃b:Bool,isKey d→(b=true↔d≠ .str "another")∧neD d (.str "another")= .ok (.sh (.bl b)):=fun d=>by
   by_cases hd:isKey d
   ·obtain⟨b,hb⟩:=du_8 hd;exact⟨b,fun _=>hb⟩
   ·exact⟨true,fun c=>absurd c hd⟩
  obtain⟨f,hf⟩:∃f:D→Bool,∀d,isKey d→(f d=true↔d≠ .str "another")∧neD d (.str "another")= .ok (.sh (.bl (f d))):=⟨fun d=>Classical.choose (hf0 d),fun d=>Classical.choose_spec (hf0 d)⟩;obtain⟨cs,hcs⟩:∃cs:List D,cs=cutL ks (some 1) none:=⟨_,rfl⟩;have cq:List.Sublist cs ks:=by rw [hcs];exact(List.take_sublist _ _).trans (List.drop_sublist _ _)
  have hck:∀d∈cs,isKey d:=fun d hd=>h.k d (cq.subset hd);have hcl:cs.length≤30:=Nat.le_trans cq.length_le hn;have hsl:eSlice (eVar 2) (oSome (eC (.int 1))) oNone (vall (h_3 nsD zs ks w b5 kd most (.sh (.lst (vs.map .int))) (.sh A) (.sh M) (.sh (.int lo)) (.sh (.lst (b_5 lo n))) (.ow (.lst (L.map .int))) .no))= .ok (.ow (.lst cs)):=by rw [hcs];rfl
  have hfl:∀d∈(cs.filter f).map id,d∈cs∧f d=true:=fun d hd=>by
   obtain⟨x,hx,rfl⟩:=List.mem_map.mp hd;exact List.mem_filter.mp hx
  have ec:c_1 1 (iOf (eSlice (eVar 2) (oSome (eC (.int 1))) oNone)) (gC 15) al_4 (eVar 15) (vall (h_3 nsD zs ks w b5 kd most (.sh (.lst (vs.map .int))) (.sh A) (.sh M) (.sh (.int lo)) (.sh (.lst (b_5 lo n))) (.ow (.lst (L.map .int))) .no))= .ok (.ow (.lst ((cs.filter f).map id))):=by
   refine g_4 (ds:=cs) (by unfold iOf;rw [hsl];rfl) (by omega) (s_6 f id cs fun d hd=> ?_);refine⟨[some nsD,some (.lst (zs.map .int)),some (.lst ks),some (.int (w:Int)),some (.int (2 ^ w)),b5.any,some (.int kd),some (.int most),some (.lst (vs.map .int)),some A,some M,some (.int lo),some (.lst (b_5 lo n)),some (.lst (L.map .int)),none,some d],rfl, ?_,fun _=>⟨.sh d,rfl,rfl⟩⟩
   simp_arith [al_4,evs,(hf d (hck d hd)).2]
  obtain⟨es,hes⟩:∃es:List D,es=(cs.filter f).map id ++ [.str "another"]:=⟨_,rfl⟩;have hel:((cs.filter f).map id).length≤30:=by rw [List.length_map];exact Nat.le_trans (List.length_filter_le _ _) hcl
  have hKe:Ks es 0 kd:=by
   refine⟨fun d hd=> ?_, ?_,by rw [hes,List.length_append];exact Nat.le_add_left _ _,by rw [hes,List.length_append];show _ + 1≤200;omega,h.s0,h.s1,h.kd⟩
   ·rw [hes] at hd;rcases List.mem_append.mp hd with hd|hd
    ·exact hck d (hfl d hd).1
    ·rw [show d= .str "another" by simpa using hd];exact ca_4
   ·rw [hes,List.nodup_append];refine⟨?_,by simp,fun a ha b hb=> ?_⟩
    ·rw [List.map_id];exact(cq.nodup h.nd).sublist List.filter_sublist
    ·rw [show b= .str "another" by simpa using hb];exact((hf a (hck a (hfl a ha).1)).1).mp (hfl a ha).2
  obtain⟨u,hu0,hu1,eu⟩:∃u:Nat,1≤u∧u≤30∧1 + (w:Int) % 30=(u:Int):=⟨(1 + (w:Int) % 30).toNat,by omega,by omega,by omega⟩;obtain⟨x,ex⟩:=ea_0 (w:=u) (most:=most) hKe hm0 hm1 (by omega) (vs.map .int);have ea:eOp d_8 (c_1 1 (iOf (eSlice (eVar 2) (oSome (eC (.int 1))) oNone)) (gC 15) al_4 (eVar 15)) (eLst (aCons (eC (.str "another")) aNil)) (vall (h_3 nsD zs ks w b5 kd most (.sh (.lst (vs.map .int))) (.sh A) (.sh M) (.sh (.int lo)) (.sh (.lst (b_5 lo n))) (.ow (.lst (L.map .int))) .no))= .ok (.ow (.lst es)):=by
   rw [bq_8 (b:= .ow (.lst [.str "another"])) ec rfl,hes];exact if_pos (by show _ + 1≤16777216;omega)
  have ew:eOp d_8 (eC (.int 1)) (eOp j_0 (eVar 3) (eC (.int 30))) (vall (h_3 nsD zs ks w b5 kd most (.sh (.lst (vs.map .int))) (.sh A) (.sh M) (.sh (.int lo)) (.sh (.lst (b_5 lo n))) (.ow (.lst (L.map .int))) .no))= .ok (.sh (.int (u:Int))):=by
   simp_arith [evs,f_3 (show(0:Int) < 30 by decide),e_5,eu]
  have e:eFn 6 d_4 (aCons (eC (.int 1)) (aCons (eOp d_8 (c_1 1 (iOf (eSlice (eVar 2) (oSome (eC (.int 1))) oNone)) (gC 15) al_4 (eVar 15)) (eLst (aCons (eC (.str "another")) aNil))) (aCons (eVar 8) (aCons (eOp d_8 (eC (.int 1)) (eOp j_0 (eVar 3) (eC (.int 30)))) (aCons (eVar 6) (aCons (eVar 7) aNil)))))) (vall (h_3 nsD zs ks w b5 kd most (.sh (.lst (vs.map .int))) (.sh A) (.sh M) (.sh (.int lo)) (.sh (.lst (b_5 lo n))) (.ow (.lst (L.map .int))) .no))= .ok (.sh x):=
   (eF (aC (w:= .sh (.int 1)) rfl (aC ea (aC (w:= .sh (.lst (vs.map .int))) rfl (aC ew (aC (w:= .sh (.int kd)) rfl (aC (w:= .sh (.int most)) rfl rfl)))))) rfl).trans ex
  unfold am_1 sExpr;rw [e]
 have p20:tOrF (eTest (eOp neD (c_1 1 (iOf (eVar 2)) (gC 15) (fun _=> .ok true) ck_7) (eVar 8))) (eTest (eOp neD (eFn 6 q_7 (aCons (eVar 9) (aCons (eVar 10) (aCons (eVar 2) (aCons (eVar 12) (aCons (eVar 6) (aCons (eVar 4) aNil))))))) (eVar 13))) (vall (h_3 nsD zs ks w b5 kd most (.sh (.lst (vs.map .int))) (.sh A) (.sh M) (.sh (.int lo)) (.sh (.lst (b_5 lo n))) (.ow (.lst (L.map .int))) .no))= .ok false:=by
  refine orF (neF (b:= .sh (.lst (vs.map .int))) (cl_8 (zs:=zs) H h.k hl (by omega) c1 rfl _ rfl rfl (fun _=>rfl) (fun _=>rfl)) rfl nv) ?_
  simp_arith [evs,rg,nL]
 have t20:az_7 (h_3 nsD zs ks w b5 kd most (.sh (.lst (vs.map .int))) (.sh A) (.sh M) (.sh (.int lo)) (.sh (.lst (b_5 lo n))) (.ow (.lst (L.map .int))) .no)= .nx (h_3 nsD zs ks w b5 kd most (.sh (.lst (vs.map .int))) (.sh A) (.sh M) (.sh (.int lo)) (.sh (.lst (b_5 lo n))) (.ow (.lst (L.map .int))) .no):=ifF _ _ _ _ p20;have t21:am_2 (h_3 nsD zs ks w b5 kd most (.sh (.lst (vs.map .int))) (.sh A) (.sh M) (.sh (.int lo)) (.sh (.lst (b_5 lo n))) (.ow (.lst (L.map .int))) .no)= .nx (h_3 nsD zs ks w b5 kd most (.sh (.lst (vs.map .int))) (.sh A) (.sh M) (.sh (.int lo)) (.sh (.lst (b_5 lo n))) (.ow (.lst (L.map .int))) (.sh M')):=by
  simp_arith [am_2,evs,ht,ha]
 have t22:am_3 (h_3 nsD zs ks w b5 kd most (.sh (.lst (vs.map .int))) (.sh A) (.sh M) (.sh (.int lo)) (.sh (.lst (b_5 lo n))) (.ow (.lst (L.map .int))) (.sh M'))= .rt (.sh (.bl true)):=by
  have e3:eOp subD (eOp d_8 (eVar 11) (eCall h_6 (aCons (eVar 12) aNil))) (eC (.int 1)) (vall (h_3 nsD zs ks w b5 kd most (.sh (.lst (vs.map .int))) (.sh A) (.sh M) (.sh (.int lo)) (.sh (.lst (b_5 lo n))) (.ow (.lst (L.map .int))) (.sh M')))= .ok (.sh (.int (lo + (n:Int) - 1))):=by
   simp_arith [evs,m_7,l_9,e_5,aa_1]
  have e:eFn 4 p_9 (aCons (eVar 14) (aCons (c_1 1 (iRev (eVar 2)) (gC 15) (fun _=> .ok true) (eVar 15)) (aCons (eVar 11) (aCons (eOp subD (eOp d_8 (eVar 11) (eCall h_6 (aCons (eVar 12) aNil))) (eC (.int 1))) aNil)))) (vall (h_3 nsD zs ks w b5 kd most (.sh (.lst (vs.map .int))) (.sh A) (.sh M) (.sh (.int lo)) (.sh (.lst (b_5 lo n))) (.ow (.lst (L.map .int))) (.sh M')))= .ok (.ow (.lst (L.map .int))):=
   (eF (aC (w:= .sh M') rfl (aC (rv _ rfl rfl) (aC (w:= .sh (.int lo)) rfl (aC e3 rfl)))) rfl).trans mi2
  unfold am_3 sRet;rw [bq_8 (b:= .sh (.lst (L.map .int))) e rfl];simp only [W.d_ow,W.d_sh,eL]
 rw [a_9 t11,a_9 t12,a_9 t13,a_9 t14,a_9 t15,a_9 t16,a_9 t17,a_9 t18,a_9 t19,a_9 t20,a_9 t21,t22]
theorem de_0(ns:List Int)(hn:ns.length≤63):∃v,da_3 [.lst (ns.map .int)]= .ok v∧v.d= .bl true:=by
 obtain⟨zs,hz,hzb,ez⟩:=dd_6 ns hn 130 (by decide);have ez:q_4 [.lst (ns.map .int), .int 130]= .ok (.ow (.lst (zs.map .int))):=ez;obtain⟨K,hK0,hK1,eK⟩:∃K:Nat,1≤K∧K≤30∧1 + zs.getD 0 0 % 30=(K:Int):=⟨(1 + zs.getD 0 0 % 30).toNat,by omega,by omega,by omega⟩;obtain⟨w,hw0,hw1,ew⟩:∃w:Nat,1≤w∧w≤30∧1 + zs.getD 1 0 % 30=(w:Int):=⟨(1 + zs.getD 1 0 % 30).toNat,by omega,by omega,by omega⟩;obtain⟨kd,hkd,ekd⟩:∃kd:Int,(kd=2∨kd=3)∧2 + zs.getD 2 0 % 2=kd:=⟨2 + zs.getD 2 0 % 2,by omega,rfl⟩;obtain⟨most,hm0,hm1,em⟩:∃most:Int,1≤most∧most≤30∧1 + zs.getD 2 0 / 2 % 30=most:=⟨1 + zs.getD 2 0 / 2 % 30,by omega,by omega,rfl⟩;obtain⟨ks,hne,hl,hk,hd,ek⟩:=be_0 zs 4 K (by omega) (by omega) hK0;have ek:f_7 [.lst (zs.map .int), .int 4, .int (K:Int)]= .ok (.ow (.lst ks)):=ek;have gm:0 < ks.length:=List.length_pos_iff.mpr hne;have pos:(0:Int) < 2 ^ w:=Int.pow_pos (by decide);have i0:ixD (.lst (zs.map .int)) (.int 0)= .ok (.sh (.int (zs.getD 0 0))):=t_1 (Q:=zs) (j:=0) (by omega);have i1:ixD (.lst (zs.map .int)) (.int 1)= .ok (.sh (.int (zs.getD 1 0))):=t_1 (Q:=zs) (j:=1) (by omega);have i2:ixD (.lst (zs.map .int)) (.int 2)= .ok (.sh (.int (zs.getD 2 0))):=t_1 (Q:=zs) (j:=2) (by omega);generalize hns:D.lst (ns.map .int)=nsD at *
 have t1:bo_7 (start3 15 [nsD])= .nx [.sh nsD, .ow (.lst (zs.map .int)), .no, .no, .no, .no, .no, .no, .no, .no, .no, .no, .no, .no, .no]:=by
  simp_arith [bo_7,evs,ez]
 have t2:bo_8 [.sh nsD, .ow (.lst (zs.map .int)), .no, .no, .no, .no, .no, .no, .no, .no, .no, .no, .no, .no, .no]= .nx [.sh nsD, .sh (.lst (zs.map .int)), .ow (.lst ks), .no, .no, .no, .no, .no, .no, .no, .no, .no, .no, .no, .no]:=by
  simp_arith [bo_8,evs,i0,f_3 (show(0:Int) < 30 by decide),e_5,eK,ek]
 have t3:bo_9 [.sh nsD, .sh (.lst (zs.map .int)), .ow (.lst ks), .no, .no, .no, .no, .no, .no, .no, .no, .no, .no, .no, .no]= .nx [.sh nsD, .sh (.lst (zs.map .int)), .ow (.lst ks), .sh (.int (w:Int)), .no, .no, .no, .no, .no, .no, .no, .no, .no, .no, .no]:=by
  simp_arith [bo_9,evs,i1,f_3 (show(0:Int) < 30 by decide),e_5,ew]
 have t4:bp_0 [.sh nsD, .sh (.lst (zs.map .int)), .ow (.lst ks), .sh (.int (w:Int)), .no, .no, .no, .no, .no, .no, .no, .no, .no, .no, .no]= .nx [.sh nsD, .sh (.lst (zs.map .int)), .ow (.lst ks), .sh (.int (w:Int)), .sh (.int (2 ^ 0)), .no, .no, .no, .no, .no, .no, .no, .no, .no, .no]:=by
  simp_arith [bp_0,evs];rfl
 obtain⟨Δ5,e5,b5,rfl⟩:=f_6 (gV 5) bo_6 (fun k Δ=>∃b5,Δ= [.sh nsD, .sh (.lst (zs.map .int)), .ow (.lst ks), .sh (.int (w:Int)), .sh (.int (2 ^ k)),b5, .no, .no, .no, .no, .no, .no, .no, .no, .no]) (ds:=b_5 0 w) (Δ:= [.sh nsD, .sh (.lst (zs.map .int)), .ow (.lst ks), .sh (.int (w:Int)), .sh (.int (2 ^ 0)), .no, .no, .no, .no, .no, .no, .no, .no, .no, .no]) ⟨_,rfl⟩ (fun k d Δ hd hI=>by
  obtain⟨b5,rfl⟩:=hI;obtain⟨rfl,hkw⟩:=ca_3 hd;have m2:g_0 (.int 2) (.int (2 ^ k))= .ok (.sh (.int (2 * 2 ^ k))):=e_0 (i_6 (by decide) (by decide));refine⟨[.sh nsD, .sh (.lst (zs.map .int)), .ow (.lst ks), .sh (.int (w:Int)), .sh (.int (2 ^ k)), .sh (.int (k:Int)), .no, .no, .no, .no, .no, .no, .no, .no, .no],rfl, [.sh nsD, .sh (.lst (zs.map .int)), .ow (.lst ks), .sh (.int (w:Int)), .sh (.int (2 ^ (k + 1))), .sh (.int (k:Int)), .no, .no, .no, .no, .no, .no, .no, .no, .no], .inl ?_,_,rfl⟩;rw [Int.pow_succ,Int.mul_comm (2 ^ k) 2]
  simp_arith [bo_6,evs,m2])
 rw [l_9] at e5;have t5:bp_1 [.sh nsD, .sh (.lst (zs.map .int)), .ow (.lst ks), .sh (.int (w:Int)), .sh (.int (2 ^ 0)), .no, .no, .no, .no, .no, .no, .no, .no, .no, .no]= .nx [.sh nsD, .sh (.lst (zs.map .int)), .ow (.lst ks), .sh (.int (w:Int)), .sh (.int (2 ^ w)),b5, .no, .no, .no, .no, .no, .no, .no, .no, .no]:=by
  have hi:iArgs n_7 (aCons (eVar 3) aNil) (vsh [.sh nsD, .sh (.lst (zs.map .int)), .ow (.lst ks), .sh (.int (w:Int)), .sh (.int (2 ^ 0)), .no, .no, .no, .no, .no, .no, .no, .no, .no, .no])= .ok (b_5 0 w):=by
   simp_arith [evs,r_3 (show(-4611686018427387903:Int)≤(w:Int) by omega) (by omega),Int.toNat_natCast]
  unfold bp_1 g_1;rw [hi];exact e5
 have t6:bp_2 [.sh nsD, .sh (.lst (zs.map .int)), .ow (.lst ks), .sh (.int (w:Int)), .sh (.int (2 ^ w)),b5, .no, .no, .no, .no, .no, .no, .no, .no, .no]= .nx [.sh nsD, .sh (.lst (zs.map .int)), .ow (.lst ks), .sh (.int (w:Int)), .sh (.int (2 ^ w)),b5, .sh (.int kd), .no, .no, .no, .no, .no, .no, .no, .no]:=by
  simp_arith [bp_2,evs,i2,f_3 (show(0:Int) < 2 by decide),e_5,ekd]
 have t7:bp_3 [.sh nsD, .sh (.lst (zs.map .int)), .ow (.lst ks), .sh (.int (w:Int)), .sh (.int (2 ^ w)),b5, .sh (.int kd), .no, .no, .no, .no, .no, .no, .no, .no]= .nx [.sh nsD, .sh (.lst (zs.map .int)), .ow (.lst ks), .sh (.int (w:Int)), .sh (.int (2 ^ w)),b5, .sh (.int kd), .sh (.int most), .no, .no, .no, .no, .no, .no, .no]:=by
  simp_arith [bp_3,evs,i2,m_4 (show(0:Int) < 2 by decide) (by decide),f_3 (show(0:Int) < 30 by decide),e_5,em]
 obtain⟨vs,hvs⟩:∃v:List Int,v=(List.range ks.length).map fun j:Nat=>zs.getD (94 + j) 0 % 2 ^ w:=⟨_,rfl⟩;have hv:vs.length=ks.length:=by rw [hvs,List.length_map,List.length_range]
 have hb:∀v∈vs,0≤v∧v < 2 ^ w:=fun v hv=>by
  rw [hvs] at hv;obtain⟨j,_,rfl⟩:=List.mem_map.mp hv;exact⟨Int.emod_nonneg _ (by omega),Int.emod_lt_of_pos _ pos⟩
 have ec:∀b:Option D,c_1 1 (iArgs n_7 (aCons (eCall h_6 (aCons (eVar 2) aNil)) aNil)) (gC 15) (fun _=> .ok true) ae_9 [some nsD,some (.lst (zs.map .int)),some (.lst ks),some (.int (w:Int)),some (.int (2 ^ w)),b,some (.int kd),some (.int most),none,none,none,none,none,none,none]= .ok (.ow (.lst (vs.map .int))):=fun b=>by
  refine g_4 (ds:=b_5 0 ks.length) (by simp_arith [evs,m_7,r_3 (show(-4611686018427387903:Int)≤(ks.length:Int) by omega) (by omega),Int.toNat_natCast]) (by rw [l_9];omega) ?_;refine ad_9 _ _ (by rw [l_9,List.length_map,hv]) fun i d hi=> ?_;obtain⟨rfl,hil⟩:=ca_3 hi;have ix:ixD (.lst (zs.map .int)) (.int (94 + (i:Int)))= .ok (.sh (.int (zs.getD (94 + i) 0))):=by
   have:=t_1 (Q:=zs) (j:=94 + i) (by omega)
   rwa [Int.natCast_add] at this
  refine⟨[some nsD,some (.lst (zs.map .int)),some (.lst ks),some (.int (w:Int)),some (.int (2 ^ w)),b,some (.int kd),some (.int most),none,none,none,none,none,none,none,some (.int (i:Int))], .sh (.int (zs.getD (94 + i) 0 % 2 ^ w)),rfl, ?_, ?_⟩
  ·simp_arith [ae_9,evs,e_5,ix,f_3 pos]
  ·rw [hvs,List.getElem?_map,List.getElem?_map,List.getElem?_range hil];rfl
 have t8:bp_4 [.sh nsD, .sh (.lst (zs.map .int)), .ow (.lst ks), .sh (.int (w:Int)), .sh (.int (2 ^ w)),b5, .sh (.int kd), .sh (.int most), .no, .no, .no, .no, .no, .no, .no]= .nx (h_3 nsD zs ks w b5 kd most (.ow (.lst (vs.map .int))) .no .no .no .no .no .no):=by
  have e1:c_1 1 (iArgs n_7 (aCons (eCall h_6 (aCons (eVar 2) aNil)) aNil)) (gC 15) (fun _=> .ok true) ae_9 (vsh [.sh nsD, .sh (.lst (zs.map .int)), .ow (.lst ks), .sh (.int (w:Int)), .sh (.int (2 ^ w)),b5, .sh (.int kd), .sh (.int most), .no, .no, .no, .no, .no, .no, .no])= .no:=rfl;have e2:c_1 1 (iArgs n_7 (aCons (eCall h_6 (aCons (eVar 2) aNil)) aNil)) (gC 15) (fun _=> .ok true) ae_9 (vall [.sh nsD, .sh (.lst (zs.map .int)), .ow (.lst ks), .sh (.int (w:Int)), .sh (.int (2 ^ w)),b5, .sh (.int kd), .sh (.int most), .no, .no, .no, .no, .no, .no, .no])= .ok (.ow (.lst (vs.map .int))):=ec b5.any;have e3:c_1 1 (iArgs n_7 (aCons (eCall h_6 (aCons (eVar 2) aNil)) aNil)) (gC 15) (fun _=> .ok true) ae_9 (vsh (gsome [1,2,4] [.sh nsD, .sh (.lst (zs.map .int)), .ow (.lst ks), .sh (.int (w:Int)), .sh (.int (2 ^ w)),b5, .sh (.int kd), .sh (.int most), .no, .no, .no, .no, .no, .no, .no]))= .ok (.ow (.lst (vs.map .int))):=ec b5.pub;have hnf:flatD (.lst (vs.map .int))=false:=rfl;unfold bp_4 sSet;rw [e1];simp only [e2,e3,W.d_ow,hnf,Bool.false_eq_true,if_false];rfl
 have ak:∀l:List D,r_0 [.lst l]= .ok (.ow (.lst l)):=fun _=>rfl;have h0:Ks ks 0 kd:=⟨hk,hd,by omega,by omega,by decide,by decide,hkd⟩;refine⟨.sh (.bl true), ?_,rfl⟩;unfold da_3;refine r_4 ?_;unfold dn_5;rcases both h0 (by omega) hm0 (by omega) hw0 (by omega) hv hb with⟨f1,f2⟩|⟨s,T1,T2,n1,n2,n3,v1,v2,v3,Z,f1,f2,H,c1,c2,ht,ha,kn⟩
 ·have t9:al_5 (h_3 nsD zs ks w b5 kd most (.ow (.lst (vs.map .int))) .no .no .no .no .no .no)= .nx (h_3 nsD zs ks w b5 kd most (.ow (.lst (vs.map .int))) (.sh .non) .no .no .no .no .no):=by
   simp_arith [al_5,evs,ak,f1]
  have t10:ad_7 (h_3 nsD zs ks w b5 kd most (.ow (.lst (vs.map .int))) (.sh .non) .no .no .no .no .no)= .nx (h_3 nsD zs ks w b5 kd most (.ow (.lst (vs.map .int))) (.sh .non) (.sh .non) .no .no .no .no):=by
   simp_arith [ad_7,evs,ak,f2]
  have t11:al_6 (h_3 nsD zs ks w b5 kd most (.ow (.lst (vs.map .int))) (.sh .non) (.sh .non) .no .no .no .no)= .rt (.sh (.bl true)):=rfl;rw [a_9 t1,a_9 t2,a_9 t3,a_9 t4,a_9 t5,a_9 t6,a_9 t7,a_9 t8,a_9 t9,a_9 t10];unfold sSeq;rw [t11]
 ·have t9:al_5 (h_3 nsD zs ks w b5 kd most (.ow (.lst (vs.map .int))) .no .no .no .no .no .no)= .nx (h_3 nsD zs ks w b5 kd most (.sh (.lst (vs.map .int))) (.sh (.obj "Kept" n1 v1)) .no .no .no .no .no):=by
   simp_arith [al_5,evs,ak,f1]
  have t10:ad_7 (h_3 nsD zs ks w b5 kd most (.sh (.lst (vs.map .int))) (.sh (.obj "Kept" n1 v1)) .no .no .no .no .no)= .nx (h_3 nsD zs ks w b5 kd most (.sh (.lst (vs.map .int))) (.sh (.obj "Kept" n1 v1)) (.sh (.obj "Marked" n2 v2)) .no .no .no .no):=by
   simp_arith [ad_7,evs,ak,f2]
  have r:=dm_4 (nsD:=nsD) (b5:=b5) hz hzb h0 (by omega) hm0 (by omega) hw0 (by omega) hv hb H c1 c2 ht ha kn;rw [a_9 t1,a_9 t2,a_9 t3,a_9 t4,a_9 t5,a_9 t6,a_9 t7,a_9 t8,a_9 t9,a_9 t10,r]
end My
set_option maxHeartbeats 20000000
namespace My
open PySem PyProof.Rows L2 L3
def top(i:Nat):Stmt:=PySem.Challenge.pw_lodge_k85_whole_values_and_strangers.main.body.getD i (.Pass ⟨0,0,0,0⟩)
def z_2:Stmt→List Stmt
 | .ClassDef (body:=b) .. =>b
 |_=> []
def inC(i j:Nat):Stmt:=(z_2 (top i)).getD j (.Pass ⟨0,0,0,0⟩)
section
variable{P:Program}{w:World}{K:Frag}{mg:Str→Option Value}{base:Heap}{f:Addr}{fd:FuncData}
abbrev TF(c:Bool)(x:Str)(k:Nat)(ps:List Str)(F:List D→R W)(P:Program)(w:World)(K:Frag)(mg:Str→Option Value)(base:Heap):Prop:=FnD P w K mg base c x k ps F
abbrev bj_8:=TF true "_law_mix" 1 ["_law_cell", "_law_k"] v_2
abbrev at_2:=TF true "_law_draws" 2 ["_law_script", "_law_many"] q_4
abbrev ab_8:=TF true "_law_drawn_key" 1 ["_law_one", "_law_two", "_law_three"] g_3
abbrev z_3:=TF true "_law_drawn_keys" 2 ["_law_draws_here", "_law_start", "_law_many"] f_7
abbrev z_4:=TF true "two_to" 1 ["width"] j_8
abbrev ag_7:=TF true "is_key_text" 1 ["text"] o_5
abbrev ba_7:=TF true "is_key" 2 ["thing"] v_9
abbrev u_5:=TF true "look_each_key" 3 ["keys"] h_8
abbrev ag_8:=TF true "look_unlike" 3 ["keys"] o_6
abbrev x_5:=TF true "look_keys" 4 ["keys"] h_0
abbrev w_5:=TF true "is_below" 1 ["number", "limit"] i_7
abbrev ag_9:=TF true "look_values" 3 ["values", "many", "limit"] h_1
abbrev u_0:=TF true "part_size" 1 ["many", "kind"] h_9
abbrev cl_9:=TF true "worth" 1 ["text"] ak_8
abbrev bq_9:=TF true "stamp" 3 ["key"] aa_2
abbrev br_0:=TF true "mixed" 1 ["number", "salt", "size"] ae_8
abbrev ae_0:=TF true "places_of" 4 ["key", "salt", "kind", "part"] f_9
abbrev ai_9:=TF true "edges_of" 5 ["keys", "salt", "kind"] s_8
abbrev ah_0:=TF true "standing_at" 1 ["edges"] o_7
abbrev ca_5:=TF true "peeled" 2 ["edges", "size"] ak_9
abbrev cg_7:=TF true "fate" 6 ["keys", "salt", "kind"] ai_3
abbrev ba_8:=TF true "succeeds" 7 ["keys", "salt", "kind"] f_8
abbrev ae_1:=TF true "first_try" 8 ["keys", "kind", "most"] c_0
abbrev ae_2:=TF true "remainder" 1 ["number", "modulus"] q_5
abbrev ba_9:=TF true "summed" 2 ["table", "places", "modulus"] n_3
abbrev ca_6:=TF true "filled" 3 ["edges", "size", "order", "wanted", "modulus"] ad_2
abbrev ae_3:=TF true "table_for" 7 ["keys", "salt", "kind", "modulus", "wanted"] k_2
abbrev br_1:=TF true "mark" 4 ["key", "width"] aa_7
abbrev bb_0:=TF true "_law_made" 11 ["_law_form", "_law_keys", "_law_values", "_law_width", "_law_kind", "_law_most"] d_4
abbrev bb_1:=TF true "_law_part" 1 ["_law_many", "_law_kind"] p_8
abbrev at_3:=TF true "_law_stamp" 1 ["_law_key"] q_6
abbrev ae_4:=TF true "_law_mixed" 1 ["_law_number", "_law_salt", "_law_size"] k_3
abbrev an_2:=TF true "_law_places" 2 ["_law_key", "_law_salt", "_law_kind", "_law_part_here"] i_0
abbrev at_4:=TF true "_law_tells" 1 ["_law_table", "_law_places_here", "_law_modulus"] k_4
abbrev at_5:=TF true "_law_range" 8 ["_law_kept", "_law_marked", "_law_keys", "_law_numbers", "_law_kind", "_law_modulus"] q_7
abbrev bb_2:=TF true "mistaken" 8 ["marked", "keys", "low", "high"] p_9
abbrev ah_1:=TF true "is_multiple" 1 ["length", "width"] o_9
abbrev at_6:=TF true "look_bits" 3 ["bits", "width"] t_7
abbrev ah_2:=TF true "number_read" 1 ["bits"] p_0
abbrev at_7:=TF true "read_bits" 4 ["bits", "width"] t_8
abbrev ab_9:=TF true "numbers_again" 5 ["bits", "width", "size"] l_8
abbrev bb_3:=TF true "house_of" 6 ["name", "kind", "salt", "many", "width", "bits", "used"] w_2
abbrev an_3:=TF true "made_again" 7 ["what"] i_2
abbrev z_5:=TF true "number_written" 1 ["number", "width"] j_9
abbrev bj_9:=TF true "written" 3 ["numbers", "width"] y_8
abbrev bk_0:=TF true "told_by" 4 ["name", "house", "width", "used"] v_3
abbrev an_4:=TF true "house_told" 5 ["house"] l_0
abbrev m_3:Stmt:=(z_2 (top 6)).getD 0 (.Pass ⟨0,0,0,0⟩)
theorem bb_4:FnScope ["self", "at"] ["self", "at"] (b_2 m_3):=⟨rfl,rfl,rfl,by decide +kernel,rfl,by decide +kernel,by decide +kernel⟩
theorem bb_5{C f:Addr}{fd:FuncData}(F:Fun K "__init__" "NoBits.__init__" m_3 f fd)(xc:XCls K C)(hn:findIn K (.ref C) "at" =some none):FnX P w K mg base false 1 f fd ["self", "at"] (ai_0 C "at"):=
 aw_0 (k:=0) F bb_4 fun zn A outer s H E=>aj_1 (av_8 xc hn (h_4 rfl (.inl rfl)) (h_4 rfl (.inl rfl)))
abbrev k_0:Stmt:=(z_2 (top 8)).getD 0 (.Pass ⟨0,0,0,0⟩)
theorem au_4:FnScope ["self", "at"] ["self", "at"] (b_2 k_0):=⟨rfl,rfl,rfl,by decide +kernel,rfl,by decide +kernel,by decide +kernel⟩
theorem au_5{C f:Addr}{fd:FuncData}(F:Fun K "__init__" "NoValue.__init__" k_0 f fd)(xc:XCls K C)(hn:findIn K (.ref C) "at" =some none):FnX P w K mg base false 1 f fd ["self", "at"] (ai_0 C "at"):=
 aw_0 (k:=0) F au_4 fun zn A outer s H E=>aj_1 (av_8 xc hn (h_4 rfl (.inl rfl)) (h_4 rfl (.inl rfl)))
abbrev o_0:Stmt:=(z_2 (top 5)).getD 0 (.Pass ⟨0,0,0,0⟩)
theorem be_1:FnScope ["self", "at"] ["self", "at"] (b_2 o_0):=⟨rfl,rfl,rfl,by decide +kernel,rfl,by decide +kernel,by decide +kernel⟩
theorem be_2{C f:Addr}{fd:FuncData}(F:Fun K "__init__" "Twice.__init__" o_0 f fd)(xc:XCls K C)(hn:findIn K (.ref C) "at" =some none):FnX P w K mg base false 1 f fd ["self", "at"] (ai_0 C "at"):=
 aw_0 (k:=0) F be_1 fun zn A outer s H E=>aj_1 (av_8 xc hn (h_4 rfl (.inl rfl)) (h_4 rfl (.inl rfl)))
abbrev o_1:Stmt:=(z_2 (top 4)).getD 0 (.Pass ⟨0,0,0,0⟩)
theorem be_3:FnScope ["self", "at"] ["self", "at"] (b_2 o_1):=⟨rfl,rfl,rfl,by decide +kernel,rfl,by decide +kernel,by decide +kernel⟩
theorem be_4{C f:Addr}{fd:FuncData}(F:Fun K "__init__" "NoKey.__init__" o_1 f fd)(xc:XCls K C)(hn:findIn K (.ref C) "at" =some none):FnX P w K mg base false 1 f fd ["self", "at"] (ai_0 C "at"):=
 aw_0 (k:=0) F be_3 fun zn A outer s H E=>aj_1 (av_8 xc hn (h_4 rfl (.inl rfl)) (h_4 rfl (.inl rfl)))
theorem cg_8(F:Fun K "_law_mix" "_law_mix" (top 77) f fd):FnX P w K mg base true 1 f fd ["_law_cell", "_law_k"] (spX K 2 v_2):=
 c_9 (N:= ["_law_cell", "_law_k", "_law_first"]) F fun zp zq hu nd zr=>(a_2 (a_8 (i:=2) [0,1] (a_5 d_1 (a_5 b_9 (a_5 b_1 (a_0 0) a_4) (a_5 b_1 a_4 (a_5 b_9 a_4 (a_0 1)))) a_4) nd)
  (a_6 (b_4 [1,2] (a_5 d_1 (a_5 b_1 (a_5 b_1 (a_5 b_9 (a_5 g_6 (a_0 2) a_4) a_4) (a_5 b_9 (a_0 2) (a_5 b_1 (a_5 b_9 (a_0 1) (a_0 1)) a_4))) (a_0 1)) a_4))))
theorem br_2(F:Fun K "_law_draws" "_law_draws" (top 78) f fd)(ae8:bj_8 P w K mg base)(o5:mg "list" =none)(c9:mg "range" =none)(g9:mg "len" =none):FnX P w K mg base true 2 f fd ["_law_script", "_law_many"] (spX K 2 q_4):=
 c_9 (N:= ["_law_script", "_law_many", "_law_rest", "_law_twice", "_law_seeds", "_law_found", "_law_k", "_law_at"]) F fun zp zq hu nd zr=>(a_2 (a_8 (i:=2) [0] (j_3 m_9 rfl o5 PyProof.Rows.boot_list (a_1 (a_0 0) a_3)) nd)
  (a_2 (e_4 [2] (c_7 (h_5 hu) (a_0 2) (s_4 a_3) (b_8 _))
   (a_6 (a_8 (i:=2) [] (s_4 (a_1 a_4 a_3)) nd))
   d_3)
  (a_2 (a_8 (i:=3) [2] (u_1 (h_5 hu) (a_5 d_1 (f_1 (a_0 2) a_4) a_4) a_4 (b_8 _)) nd)
  (a_2 (bm_4 (i:=2) (a_5 g_6 (f_1 (a_0 2) a_4) a_4) a_4)
  (a_2 (cj_6 (i:=4) (j_3 m_9 rfl o5 PyProof.Rows.boot_list (a_1 (a_0 2) a_3)) nd)
  (a_2 (a_8 (i:=5) [] (s_4 a_3) nd)
  (a_2 (i_5 [1] c_4 zp (j_5 c9 (a_1 (a_0 1) a_3)) (m_5 (i:=6) nd)
   (a_2 (a_8 (i:=7) [2,6] (a_5 d_1 (a_0 6) (c_6 c_8 rfl g9 PySem.boot_len (a_1 (a_0 2) a_3))) nd)
  (a_6 (e_4 [2,3,7] (td_w (aj_8 (e_3 (a_0 3)) (ac_1 (c_7 (h_5 hu) (f_1 (a_0 2) (a_0 7)) a_4 (b_8 _)))))
   (a_6 (ao_3 (i:=5) (a_7 zq zr ae8 (a_1 (a_7 zq zr ae8 (a_1 (a_5 d_1 (f_1 (a_0 4) (a_0 7)) a_4) (a_1 (a_5 b_1 (a_0 6) a_4) a_3))) (a_1 (a_5 b_1 (a_5 d_1 (a_5 b_9 (a_0 6) (a_0 6)) a_4) a_4) a_3)))))
   (a_2 (ao_3 (i:=5) (a_5 d_1 (f_1 (a_0 2) (a_0 7)) a_4))
  (a_6 (bm_4 (i:=2) (a_5 g_6 (f_1 (a_0 2) (a_0 7)) a_4) (a_0 7))))))))
  (a_6 (n_6 5)))))))))
theorem aq_2(F:Fun K "_law_drawn_key" "_law_drawn_key" (top 79) f fd)(c9:mg "range" =none):FnX P w K mg base true 1 f fd ["_law_one", "_law_two", "_law_three"] (spX K 3 g_3):=
 c_9 (N:= ["_law_one", "_law_two", "_law_three", "_law_signs", "_law_rest", "_law_found", "_law_k", "_law_at"]) F fun zp zq hu nd zr=>(a_2 (a_8 (i:=3) [] p_6 nd)
  (a_2 (e_4 [0] (c_7 (h_5 hu) (a_5 d_1 (a_0 0) a_4) a_4 (b_8 _))
   (a_6 (b_4 [0,1] (a_5 d_1 (a_5 b_1 (a_5 g_6 (a_0 0) a_4) (a_5 b_9 a_4 (a_0 1))) (a_5 ci_2 a_4 a_4))))
   d_3)
  (a_2 (e_4 [0] (c_7 (h_5 hu) (a_5 d_1 (a_0 0) a_4) a_4 (b_8 _))
   (a_6 (b_4 [0] (a_5 d_1 (a_5 g_6 (a_0 0) a_4) a_4)))
   d_3)
  (a_2 (a_8 (i:=4) [0,1,2] (s_4 (a_1 (a_5 b_1 (a_5 b_9 (a_5 g_6 (a_0 0) a_4) a_4) (a_0 1)) (a_1 (a_0 2) a_3))) nd)
  (a_2 (a_8 (i:=5) [] p_6 nd)
  (a_2 (i_5 [0] c_4 zp (j_5 c9 (a_1 (a_5 d_1 (a_5 g_6 (a_0 0) a_4) a_4) a_3)) (m_5 (i:=6) nd)
   (a_2 (a_8 (i:=7) [6] (a_5 g_6 (a_0 6) a_4) nd)
  (a_2 (a_8 (i:=5) [3,4,5,7] (a_5 b_1 (a_0 5) (f_1 (a_0 3) (a_5 d_1 (f_1 (a_0 4) (a_0 7)) a_4))) nd)
  (a_6 (bm_4 (i:=4) (a_5 g_6 (f_1 (a_0 4) (a_0 7)) a_4) (a_0 7))))))
  (a_6 (n_6 5))))))))
theorem an_5(F:Fun K "_law_drawn_keys" "_law_drawn_keys" (top 80) f fd)(v6:ab_8 P w K mg base)(c9:mg "range" =none):FnX P w K mg base true 2 f fd ["_law_draws_here", "_law_start", "_law_many"] (spX K 3 f_7):=
 c_9 (N:= ["_law_draws_here", "_law_start", "_law_many", "_law_found", "_law_k", "_law_at", "_law_key"]) F fun zp zq hu nd zr=>(a_2 (a_8 (i:=3) [] (s_4 a_3) nd)
  (a_2 (i_5 [2] c_4 zp (j_5 c9 (a_1 (a_0 2) a_3)) (m_5 (i:=4) nd)
   (a_2 (a_8 (i:=5) [1,4] (a_5 b_1 (a_0 1) (a_5 b_9 a_4 (a_0 4))) nd)
  (a_2 (a_8 (i:=6) [0,5] (a_7 zq zr v6 (a_1 (f_1 (a_0 0) (a_0 5)) (a_1 (f_1 (a_0 0) (a_5 b_1 (a_0 5) a_4)) (a_1 (f_1 (a_0 0) (a_5 b_1 (a_0 5) a_4)) a_3)))) nd)
  (a_6 (e_4 [3,6] (c_7 bg_5 (a_0 6) (a_0 3) (by with_unfolding_all rfl))
   (a_6 (ao_3 (i:=3) (a_0 6)))
   d_3)))))
  (a_2 (e_4 [3] (c_7 (h_5 hu) (a_0 3) (s_4 a_3) (b_8 _))
   (a_6 (a_8 (i:=3) [0,1] (s_4 (a_1 (a_5 d_1 (f_1 (a_0 0) (a_0 1)) a_4) a_3)) nd))
   d_3)
  (a_6 (n_6 3)))))
theorem cs_1(F:Fun K "two_to" "two_to" (top 12) f fd)(c9:mg "range" =none):FnX P w K mg base true 1 f fd ["width"] (spX K 1 j_8):=
 c_9 (N:= ["width", "power", "turn"]) F fun zp zq hu nd zr=>(a_2 (a_8 (i:=1) [] a_4 nd)
  (a_2 (i_5 [0] c_4 zp (j_5 c9 (a_1 (a_0 0) a_3)) (m_5 (i:=2) nd)
   (a_6 (a_8 (i:=1) [1] (a_5 b_9 (a_0 1) a_4) nd)))
  (a_6 (n_6 1))))
theorem bb_6(F:Fun K "is_key_text" "is_key_text" (top 27) f fd)(g9:mg "len" =none)(ca2:mg "all" =none){as8:Tok}(ac1:mg "MOST_SIGNS" =some (.int 11 as8)){ar9:Tok}(ae6:mg "SIGNS" =some (.str "abcdefghijklmnopqrstuvwxyz0123456789-_ " ar9)):FnX P w K mg base true 1 f fd ["text"] (spX K 1 o_5):=
 c_9 (N:= ["text"]) F fun zp zq hu nd zr=>(a_6 (b_4 [0] (bl_3 (u_1 bl_8 (c_6 c_8 rfl g9 PySem.boot_len (a_1 (a_0 0) a_3)) (u_7 rfl ac1) (b_8 _)) (bl_2 (c_6 (co_8 zp) rfl ca2 PyProof.Rows.boot_all (a_1 (k_7 (N':= ["text", "sign"]) zp (s_2 (a_0 0)) rfl (by kernel_rfl) rfl (fun C s0 H0 fp pn=>⟨(gcM (i:=1)),s_5,(u_1 ds_2 (a_0 1) (ci_0 rfl ae6) (by with_unfolding_all rfl))⟩)) a_3))))))
theorem cs_2(F:Fun K "is_key" "is_key" (top 28) f fd)(y9:ag_7 P w K mg base)(c7:mg "isinstance" =none)(ab7:mg "bool" =none)(ah0:mg "int" =none)(ah6:mg "str" =none)(r0:KitT K "bool")(x5:KitT K "int")(ae7:KitT K "str"){r6:Tok}(k7:mg "GREATEST_NUMBER" =some (.int 999999999999999999 r6)):FnX P w K mg base true 2 f fd ["thing"] (spX K 1 v_9):=
 c_9 (N:= ["thing"]) F fun zp zq hu nd zr=>(a_2 (e_4 [0] (e_3 (ac_5 r0 (a_0 0) c7 ab7 ao_4))
   (a_6 (b_4 [] aj_7))
   d_3)
  (a_2 (e_4 [0] (e_3 (ac_5 x5 (a_0 0) c7 ah0 PyProof.Rows.boot_int))
   (a_6 (b_4 [0] (bt_6 bl_8 bl_8 a_4 (a_0 0) (u_7 rfl k7))))
   d_3)
  (a_6 (b_4 [0] (bl_3 (ac_5 ae7 (a_0 0) c7 ah6 PyProof.Rows.boot_str) (bl_2 (a_7 zq zr y9 (a_1 (a_0 0) a_3))))))))
theorem aq_3(F:Fun K "look_each_key" "look_each_key" (top 33) f fd)(ab0:ba_7 P w K mg base)(g8:mg "enumerate" =none){j8:Addr}(ae9:XC P w K mg base "NoKey" "at" j8):FnX P w K mg base true 3 f fd ["keys"] (spX K 1 h_8):=
 c_9 (N:= ["keys", "place", "key"]) F fun zp zq hu nd zr=>(a_6 (i_5 [0] c_4 zp (ae_6 g8 (a_0 0)) (ah_6 (i:=1) (j:=2) zp nd)
   (a_6 (e_4 [2] (ao_0 (e_3 (a_7 zq zr ab0 (a_1 (a_0 2) a_3))))
   (a_6 (t_6 [1] ae9 (RoomC.mono zq (by decide)) r_5 (a_0 1)))
   d_3))))
theorem bb_7(F:Fun K "look_unlike" "look_unlike" (top 34) f fd)(g8:mg "enumerate" =none){l0:Addr}(as2:XC P w K mg base "Twice" "at" l0):FnX P w K mg base true 3 f fd ["keys"] (spX K 1 o_6):=
 c_9 (N:= ["keys", "seen", "place", "key"]) F fun zp zq hu nd zr=>(a_2 (a_8 (i:=1) [] av_5 nd)
  (a_6 (i_5 [0] c_4 zp (ae_6 g8 (a_0 0)) (ah_6 (i:=2) (j:=3) zp nd)
   (a_2 (e_4 [1,3] (c_7 (dt_0 hu) (a_0 3) (a_0 1) (by with_unfolding_all rfl))
   (a_6 (t_6 [2] as2 (RoomC.mono zq (by decide)) r_5 (a_0 2)))
   d_3)
  (a_6 (bm_5 (i:=1) [] hu aj_7 (a_0 3)))))))
theorem br_3(F:Fun K "look_keys" "look_keys" (top 35) f fd)(l8:u_5 P w K mg base)(aa0:ag_8 P w K mg base)(g9:mg "len" =none){k9:Addr}(ak0:XC0 K mg "NoKeys" k9){aw9:Tok}(ad7:mg "MOST_KEYS" =some (.int 200 aw9)):FnX P w K mg base true 4 f fd ["keys"] (spX K 1 h_0):=
 c_9 (N:= ["keys"]) F fun zp zq hu nd zr=>(a_2 (e_4 [0] (td_w (aj_8 (c_7 (h_5 hu) (c_6 c_8 rfl g9 PySem.boot_len (a_1 (a_0 0) a_3)) a_4 (b_8 _)) (ac_1 (c_7 cc_7 (c_6 c_8 rfl g9 PySem.boot_len (a_1 (a_0 0) a_3)) (u_7 rfl ad7) (b_8 _)))))
   (a_6 (ap_6 ak0 (RoomC.mono zq (by decide)) r_5))
   d_3)
  (a_2 (x_0 [0] (a_7 zq zr l8 (a_1 (a_0 0) a_3)))
  (a_2 (x_0 [0] (a_7 zq zr aa0 (a_1 (a_0 0) a_3)))
  (a_6 (b_4 [0] (c_6 c_8 rfl g9 PySem.boot_len (a_1 (a_0 0) a_3)))))))
theorem ca_7(F:Fun K "is_below" "is_below" (top 11) f fd)(c7:mg "isinstance" =none)(ab7:mg "bool" =none)(r0:KitT K "bool"):FnX P w K mg base true 1 f fd ["number", "limit"] (spX K 2 i_7):=
 c_9 (N:= ["number", "limit"]) F fun zp zq hu nd zr=>(a_6 (b_4 [0,1] (bl_3 (dr_6 (ac_5 r0 (a_0 0) c7 ab7 ao_4)) (bl_2 (bt_6 bl_8 ax_6 a_4 (a_0 0) (a_0 1))))))
theorem bb_8(F:Fun K "look_values" "look_values" (top 56) f fd)(k8:w_5 P w K mg base)(g8:mg "enumerate" =none)(g9:mg "len" =none){h8:Addr}(ae3:XC P w K mg base "NoValue" "at" h8):FnX P w K mg base true 3 f fd ["values", "many", "limit"] (spX K 3 h_1):=
 c_9 (N:= ["values", "many", "limit", "place", "value"]) F fun zp zq hu nd zr=>(a_2 (i_5 [0] c_4 zp (ae_6 g8 (a_0 0)) (ah_6 (i:=3) (j:=4) zp nd)
   (a_6 (e_4 [1,2,3,4] (td_w (aj_8 (c_7 cw_2 (a_0 3) (a_0 1) (b_8 _)) (ac_1 (ao_0 (e_3 (a_7 zq zr k8 (a_1 (a_0 4) (a_1 (a_0 2) a_3))))))))
   (a_6 (t_6 [3] ae3 (RoomC.mono zq (by decide)) r_5 (a_0 3)))
   d_3)))
  (a_6 (e_4 [0,1] (c_7 ax_6 (c_6 c_8 rfl g9 PySem.boot_len (a_1 (a_0 0) a_3)) (a_0 1) (b_8 _))
   (a_6 (t_6 [0] ae3 (RoomC.mono zq (by decide)) r_5 (c_6 c_8 rfl g9 PySem.boot_len (a_1 (a_0 0) a_3))))
   d_3)))
theorem br_4(F:Fun K "part_size" "part_size" (top 45) f fd):FnX P w K mg base true 1 f fd ["many", "kind"] (spX K 2 h_9):=
 c_9 (N:= ["many", "kind"]) F fun zp zq hu nd zr=>(a_2 (e_4 [1] (c_7 ax_6 (a_0 1) a_4 (b_8 _))
   (a_6 (b_4 [0] (a_5 b_1 (a_5 b_1 (a_0 0) (a_5 g_6 (a_0 0) a_4)) a_4)))
   d_3)
  (a_6 (b_4 [0] (a_5 b_1 (a_5 g_6 (a_5 b_9 a_4 (a_0 0)) a_4) a_4))))
theorem de_1(F:Fun K "worth" "worth" (top 29) f fd){ar9:Tok}(ae6:mg "SIGNS" =some (.str "abcdefghijklmnopqrstuvwxyz0123456789-_ " ar9)):FnX P w K mg base true 1 f fd ["text"] (spX K 1 ak_8):=
 c_9 (N:= ["text", "total", "sign"]) F fun zp zq hu nd zr=>(a_2 (a_8 (i:=1) [] a_4 nd)
  (a_2 (i_5 [0] c_4 zp (s_2 (a_0 0)) (m_5 (i:=2) nd)
   (a_6 (a_8 (i:=1) [1,2] (a_5 b_1 (a_5 b_1 (a_5 b_9 a_4 (a_0 1)) (bm_3 PySem.F.plainAttrs_str PySem.F.slot_str_find PySem.F.type_str_find cx_0 (ci_0 rfl ae6) (a_1 (a_0 2) a_3))) a_4) nd)))
  (a_6 (n_6 1))))
theorem de_2(F:Fun K "stamp" "stamp" (top 30) f fd)(ab0:ba_7 P w K mg base)(as5:cl_9 P w K mg base)(c7:mg "isinstance" =none)(ah6:mg "str" =none)(ae7:KitT K "str"){j8:Addr}(ae9:XC P w K mg base "NoKey" "at" j8):FnX P w K mg base true 3 f fd ["key"] (spX K 1 aa_2):=
 c_9 (N:= ["key"]) F fun zp zq hu nd zr=>(a_2 (e_4 [0] (ao_0 (e_3 (a_7 zq zr ab0 (a_1 (a_0 0) a_3))))
   (a_6 (t_6 [] ae9 (RoomC.mono zq (by decide)) r_5 a_4))
   d_3)
  (a_2 (e_4 [0] (e_3 (ac_5 ae7 (a_0 0) c7 ah6 PyProof.Rows.boot_str))
   (a_6 (b_4 [0] (a_5 b_1 (a_5 b_9 a_4 (a_7 zq zr as5 (a_1 (a_0 0) a_3))) a_4)))
   d_3)
  (a_6 (b_4 [0] (a_5 b_9 a_4 (a_0 0))))))
theorem de_3(F:Fun K "mixed" "mixed" (top 31) f fd){ch6:Tok}(ah2:mg "PRIME" =some (.int 2305843009213693951 ch6)):FnX P w K mg base true 1 f fd ["number", "salt", "size"] (spX K 3 ae_8):=
 c_9 (N:= ["number", "salt", "size", "factor", "shift", "first"]) F fun zp zq hu nd zr=>(a_2 (e_4 [2] (c_7 (h_5 hu) (a_0 2) a_4 (b_8 _))
   (a_6 (b_4 [] a_4))
   d_3)
  (a_2 (a_8 (i:=3) [1] (a_5 b_1 a_4 (a_5 d_1 (a_5 b_1 (a_5 b_9 a_4 (a_0 1)) a_4) (a_5 w_9 (u_7 rfl ah2) a_4))) nd)
  (a_2 (a_8 (i:=4) [1] (a_5 d_1 (a_5 b_1 (a_5 b_9 (a_5 b_9 a_4 (a_0 1)) (a_0 1)) (a_5 b_9 a_4 (a_0 1))) (u_7 rfl ah2)) nd)
  (a_2 (a_8 (i:=5) [0,3,4] (a_5 d_1 (a_5 b_1 (a_5 b_9 (a_0 3) (a_0 0)) (a_0 4)) (u_7 rfl ah2)) nd)
  (a_6 (b_4 [2,5] (a_5 d_1 (a_5 b_1 (a_0 5) (a_5 g_6 (a_0 5) a_4)) (a_0 2))))))))
theorem br_5(F:Fun K "places_of" "places_of" (top 46) f fd)(af2:bq_9 P w K mg base)(ae5:br_0 P w K mg base)(ae4:mg "tuple" =none)(c9:mg "range" =none):FnX P w K mg base true 4 f fd ["key", "salt", "kind", "part"] (spX K 4 f_9):=
 c_9 (N:= ["key", "salt", "kind", "part", "number"]) F fun zp zq hu nd zr=>(a_2 (a_8 (i:=4) [0] (a_7 zq zr af2 (a_1 (a_0 0) a_3)) nd)
  (a_6 (b_4 [1,2,3,4] (j_3 ax_7 rfl ae4 PyProof.Rows.boot_tuple (a_1 (k_7 (N':= ["key", "salt", "kind", "part", "number", "turn"]) zp (j_5 c9 (a_1 (a_0 2) a_3)) rfl (by kernel_rfl) rfl (fun C s0 H0 fp pn=>⟨(gcM (i:=5)),s_5,(a_5 b_1 (a_5 b_9 (a_0 5) (a_0 3)) (a_7 (m_0 zq) t_2 ae5 (a_1 (a_0 4) (a_1 (a_5 b_1 (a_5 b_9 a_4 (a_0 1)) (a_0 5)) (a_1 (a_0 3) a_3)))))⟩)) a_3)))))
theorem ca_8(F:Fun K "edges_of" "edges_of" (top 47) f fd)(j4:u_0 P w K mg base)(m8:x_5 P w K mg base)(p7:ae_0 P w K mg base):FnX P w K mg base true 5 f fd ["keys", "salt", "kind"] (spX K 3 s_8):=
 c_9 (N:= ["keys", "salt", "kind", "part"]) F fun zp zq hu nd zr=>(a_2 (a_8 (i:=3) [0,2] (a_7 zq zr j4 (a_1 (a_7 zq zr m8 (a_1 (a_0 0) a_3)) (a_1 (a_0 2) a_3))) nd)
  (a_6 (b_4 [0,1,2,3] (k_7 (N':= ["keys", "salt", "kind", "part", "key"]) zp (s_2 (a_0 0)) rfl (by kernel_rfl) rfl (fun C s0 H0 fp pn=>⟨(gcM (i:=4)),s_5,(a_7 (m_0 zq) t_2 p7 (a_1 (a_0 4) (a_1 (a_0 1) (a_1 (a_0 2) (a_1 (a_0 3) a_3)))))⟩)))))
theorem bb_9(F:Fun K "standing_at" "standing_at" (top 41) f fd)(g8:mg "enumerate" =none):FnX P w K mg base true 1 f fd ["edges"] (spX K 1 o_7):=
 c_9 (N:= ["edges", "standing", "number", "edge", "place"]) F fun zp zq hu nd zr=>(a_2 (a_8 (i:=1) [] av_5 nd)
  (a_2 (i_5 [0] c_4 zp (ae_6 g8 (a_0 0)) (ah_6 (i:=2) (j:=3) zp nd)
   (a_6 (i_5 [3] c_4 zp (s_2 (a_0 3)) (m_5 (i:=4) nd)
   (a_2 (e_4 [1,4] (c_7 (ap_0 hu) (a_0 4) (a_0 1) (by with_unfolding_all rfl))
   (a_6 (di_6 (i:=1) hu (a_0 4)))
   d_3)
  (a_6 (di_4 (i:=1) hu aj_7 (a_0 4) (a_0 2)))))))
  (a_6 (n_6 1))))
theorem br_6(F:Fun K "take_away" "take_away" (top 42) f fd):FnX P w K mg base true 1 f fd ["number", "edge", "standing"] (spM K 2 n_2):=
 dz_0 (n:=2) (N:= ["number", "edge", "standing", "place"]) F (by decide) (by decide) fun zp zq hu nd zr=>(a_6 (i_5 [1] c_4 zp (s_2 (a_0 1)) (m_5 (i:=3) nd)
   (a_6 (di_5 (i:=2) hu (a_0 3) (a_0 0)))))
theorem cs_3(F:Fun K "peeled" "peeled" (top 43) f fd)(z9:ah_0 P w K mg base)(ad8:FnMd P w K mg base true "take_away" 1 2 ["number", "edge", "standing"] n_2)(o5:mg "list" =none)(g9:mg "len" =none)(ag9:mg "min" =none)(c9:mg "range" =none):FnX P w K mg base true 2 f fd ["edges", "size"] (spX K 2 ak_9):=
 c_9 (N:= ["edges", "size", "standing", "waiting", "order", "taken", "left", "place", "number"]) F fun zp zq hu nd zr=>(a_2 (a_8 (i:=2) [0] (a_7 zq zr z9 (a_1 (a_0 0) a_3)) nd)
  (a_2 (cj_6 (i:=3) (j_3 (cd_8 zp) rfl o5 PyProof.Rows.boot_list (a_1 (a_0 2) a_3)) nd)
  (a_2 (a_8 (i:=4) [] (s_4 a_3) nd)
  (a_2 (a_8 (i:=5) [] av_5 nd)
  (a_2 (bu_5 [3] 3000 c_4 (c_7 cc_7 (c_6 c_8 rfl g9 PySem.boot_len (a_1 (a_0 3) a_3)) a_4 (b_8 _))
   (a_2 (di_9 (i:=7) (j:=3) nd)
  (a_6 (e_4 [2,7] (c_7 (h_5 hu) (c_6 cp_2 rfl g9 PySem.boot_len (a_1 (cj_2 hu (a_0 2) (a_0 7)) a_3)) a_4 (b_8 _))
   (a_2 (a_8 (i:=8) [2,7] (c_6 (cp_4 zp) rfl ag9 PyProof.Rows.boot_min (a_1 (cj_2 hu (a_0 2) (a_0 7)) a_3)) nd)
  (a_2 (ao_3 (i:=4) (cv_2 (a_1 (a_0 8) (a_1 (a_0 7) a_3))))
  (a_2 (bm_5 (i:=5) [] hu aj_7 (a_0 8))
  (a_2 (cy_0 (i:=2) zq zr ad8 (a_0 8) (f_1 (a_0 0) (a_0 8)))
  (a_6 (dt_3 (i:=3) (f_1 (a_0 0) (a_0 8))))))))
   d_3))))
  (a_2 (bm_0 (i:=6) [0,5] (N':= ["edges", "size", "standing", "waiting", "order", "taken", "left", "place", "?8", "number"]) zp (j_5 c9 (a_1 (c_6 c_8 rfl g9 PySem.boot_len (a_1 (a_0 0) a_3)) a_3)) rfl (by kernel_rfl) rfl (fun C s0 H0 fp pn=>⟨(gcM (i:=9)),(ax_8 (c_7 (ap_0 hu) (a_0 9) (a_0 5) (by with_unfolding_all rfl))),(a_0 9)⟩) nd)
  (a_6 (dj_1 (i:=4) (j:=6)))))))))
theorem dm_5(F:Fun K "fate" "fate" (top 48) f fd)(v5:ai_9 P w K mg base)(ap1:ca_5 P w K mg base)(j4:u_0 P w K mg base)(g9:mg "len" =none):FnX P w K mg base true 6 f fd ["keys", "salt", "kind"] (spX K 3 ai_3):=
 c_9 (N:= ["keys", "salt", "kind", "edges"]) F fun zp zq hu nd zr=>(a_2 (a_8 (i:=3) [0,1,2] (a_7 zq zr v5 (a_1 (a_0 0) (a_1 (a_0 1) (a_1 (a_0 2) a_3)))) nd)
  (a_6 (b_4 [0,2,3] (a_7 zq zr ap1 (a_1 (a_0 3) (a_1 (a_5 b_9 (a_0 2) (a_7 zq zr j4 (a_1 (c_6 c_8 rfl g9 PySem.boot_len (a_1 (a_0 0) a_3)) (a_1 (a_0 2) a_3)))) a_3))))))
theorem ca_9(F:Fun K "succeeds" "succeeds" (top 49) f fd)(ai8:cg_7 P w K mg base)(g9:mg "len" =none):FnX P w K mg base true 7 f fd ["keys", "salt", "kind"] (spX K 3 f_8):=
 c_9 (N:= ["keys", "salt", "kind", "left"]) F fun zp zq hu nd zr=>(a_2 (a_8 (i:=3) [0,1,2] (f_1 (a_7 zq zr ai8 (a_1 (a_0 0) (a_1 (a_0 1) (a_1 (a_0 2) a_3)))) a_4) nd)
  (a_6 (b_4 [3] (u_1 (h_5 hu) (c_6 c_8 rfl g9 PySem.boot_len (a_1 (a_0 3) a_3)) a_4 (b_8 _)))))
theorem br_7(F:Fun K "first_try" "first_try" (top 50) f fd)(m8:x_5 P w K mg base)(ag8:ba_8 P w K mg base)(c9:mg "range" =none){i7:Addr}(ao0:XC0 K mg "NoTry" i7):FnX P w K mg base true 8 f fd ["keys", "kind", "most"] (spX K 3 c_0):=
 c_9 (N:= ["keys", "kind", "most", "salt"]) F fun zp zq hu nd zr=>(a_2 (x_0 [0] (a_7 zq zr m8 (a_1 (a_0 0) a_3)))
  (a_2 (i_5 [2] c_4 zp (j_5 c9 (a_1 (a_0 2) a_3)) (m_5 (i:=3) nd)
   (a_6 (e_4 [0,1,3] (e_3 (a_7 zq zr ag8 (a_1 (a_0 0) (a_1 (a_0 3) (a_1 (a_0 1) a_3)))))
   (a_6 (n_6 3))
   d_3)))
  (a_6 (ap_6 ao0 (RoomC.mono zq (by decide)) r_5))))
theorem br_8(F:Fun K "remainder" "remainder" (top 37) f fd):FnX P w K mg base true 1 f fd ["number", "modulus"] (spX K 2 q_5):=
 c_9 (N:= ["number", "modulus"]) F fun zp zq hu nd zr=>(a_6 (b_4 [0,1] (cv_1 (c_7 (h_5 hu) (a_0 1) a_4 (b_8 _)) a_4 (a_5 d_1 (a_0 0) (a_0 1)))))
theorem cs_4(F:Fun K "summed" "summed" (top 38) f fd)(k8:w_5 P w K mg base)(q8:ae_2 P w K mg base)(g9:mg "len" =none)(ar7:mg "sum" =none):FnX P w K mg base true 2 f fd ["table", "places", "modulus"] (spX K 3 n_3):=
 c_9 (N:= ["table", "places", "modulus", "found"]) F fun zp zq hu nd zr=>(a_2 (bm_0 (i:=3) [0,1] (N':= ["table", "places", "modulus", "found", "place"]) zp (s_2 (a_0 1)) rfl (by kernel_rfl) rfl (fun C s0 H0 fp pn=>⟨(gcM (i:=4)),(ax_8 (e_3 (a_7 (m_0 zq) t_2 k8 (a_1 (a_0 4) (a_1 (c_6 c_8 rfl g9 PySem.boot_len (a_1 (a_0 0) a_3)) a_3))))),(f_1 (a_0 0) (a_0 4))⟩) nd)
  (a_6 (b_4 [2,3] (a_7 zq zr q8 (a_1 (c_6 (bh_3 zp) rfl ar7 PyProof.Rows.boot_sum (a_1 (a_0 3) a_3)) (a_1 (a_0 2) a_3))))))
theorem cs_5(F:Fun K "filled" "filled" (top 39) f fd)(aa8:ba_9 P w K mg base)(k8:w_5 P w K mg base)(q8:ae_2 P w K mg base)(p6:mg "reversed" =none):FnX P w K mg base true 3 f fd ["edges", "size", "order", "wanted", "modulus"] (spX K 5 ad_2):=
 c_9 (N:= ["edges", "size", "order", "wanted", "modulus", "table", "number", "place", "lacking"]) F fun zp zq hu nd zr=>(a_2 (a_8 (i:=5) [1] (cx_7 (a_1 a_4 a_3) (a_0 1)) nd)
  (a_2 (i_5 [2] c_4 zp (cd_5 p6 (a_0 2)) (ah_6 (i:=6) (j:=7) zp nd)
   (a_2 (a_8 (i:=8) [0,3,4,5,6] (a_5 w_9 (f_1 (a_0 3) (a_0 6)) (a_7 zq zr aa8 (a_1 (a_0 5) (a_1 (f_1 (a_0 0) (a_0 6)) (a_1 (a_0 4) a_3))))) nd)
  (a_6 (e_4 [1,7] (e_3 (a_7 zq zr k8 (a_1 (a_0 7) (a_1 (a_0 1) a_3))))
   (a_6 (di_3 (i:=5) [4,8] (a_7 zq zr q8 (a_1 (a_0 8) (a_1 (a_0 4) a_3))) (a_0 7)))
   d_3))))
  (a_6 (n_6 5))))
theorem an_6(F:Fun K "__init__" "Table.__init__" (inC 52 0) f fd){CI:Addr}(hCI:ClsAt K "Table" CI)(n8:OFld K ["Table"] "by_salt")(x4:OFld K ["Table"] "kind")(af1:OFld K ["Table"] "part")(r9:OFld K ["Table"] "modulus")(o8:OFld K ["Table"] "listed"):FnX P w K mg base true 1 f fd ["self", "salt", "kind", "part", "modulus", "listed"] (spI K CI 5 aa_5):=
 ck_3 (n:=5) (cn:= "Table") (N:= ["self", "salt", "kind", "part", "modulus", "listed"]) F hCI (by decide) (by decide) fun zp zq hu nd zr=>(a_2 (m_6 (i:=0) [1] n8 (a_0 1))
  (a_2 (m_6 (i:=0) [2] x4 (a_0 2))
  (a_2 (m_6 (i:=0) [3] af1 (a_0 3))
  (a_2 (m_6 (i:=0) [4] r9 (a_0 4))
  (a_6 (m_6 (i:=0) [5] o8 (a_0 5)))))))
theorem br_9(F:Fun K "table_for" "table_for" (top 53) f fd)(j4:u_0 P w K mg base)(v5:ai_9 P w K mg base)(ai8:cg_7 P w K mg base)(am7:ca_6 P w K mg base)(ab3:MakD P w K mg base true "Table" 1 5 aa_5)(g9:mg "len" =none):FnX P w K mg base true 7 f fd ["keys", "salt", "kind", "modulus", "wanted"] (spX K 5 k_2):=
 c_9 (N:= ["keys", "salt", "kind", "modulus", "wanted", "part", "edges", "order"]) F fun zp zq hu nd zr=>(a_2 (a_8 (i:=5) [0,2] (a_7 zq zr j4 (a_1 (c_6 c_8 rfl g9 PySem.boot_len (a_1 (a_0 0) a_3)) (a_1 (a_0 2) a_3))) nd)
  (a_2 (a_8 (i:=6) [0,1,2] (a_7 zq zr v5 (a_1 (a_0 0) (a_1 (a_0 1) (a_1 (a_0 2) a_3)))) nd)
  (a_2 (a_8 (i:=7) [0,1,2] (f_1 (a_7 zq zr ai8 (a_1 (a_0 0) (a_1 (a_0 1) (a_1 (a_0 2) a_3)))) a_4) nd)
  (a_6 (b_4 [1,2,3,4,5,6,7] (ak_6 zq zr ab3 (a_1 (a_0 1) (a_1 (a_0 2) (a_1 (a_0 5) (a_1 (a_0 3) (a_1 (a_7 zq zr am7 (a_1 (a_0 6) (a_1 (a_5 b_9 (a_0 2) (a_0 5)) (a_1 (a_0 7) (a_1 (a_0 4) (a_1 (a_0 3) a_3)))))) a_3)))))))))))
theorem aq_4(F:Fun K "__init__" "Kept.__init__" (inC 57 0) f fd){CI:Addr}(hCI:ClsAt K "Kept" CI)(l5:z_4 P w K mg base)(m8:x_5 P w K mg base)(z8:ag_9 P w K mg base)(p8:ae_1 P w K mg base)(q9:ae_3 P w K mg base)(j5:OFld K ["Kept", "Marked", "PeeledAgain", "OrderedAgain", "KeptAgain", "MarkedAgain"] "how_many")(j6:OFld K ["Kept", "Marked", "KeptAgain", "MarkedAgain"] "width")(c6:OFld K ["Kept", "Marked", "PeeledAgain", "OrderedAgain", "KeptAgain", "MarkedAgain"] "own_table")(g9:mg "len" =none):FnX P w K mg base true 9 f fd ["self", "keys", "values", "width", "kind", "most"] (spI K CI 5 aa_6):=
 ck_3 (n:=5) (cn:= "Kept") (N:= ["self", "keys", "values", "width", "kind", "most", "limit", "salt"]) F hCI (by decide) (by decide) fun zp zq hu nd zr=>(a_2 (a_8 (i:=6) [3] (a_7 zq zr l5 (a_1 (a_0 3) a_3)) nd)
  (a_2 (m_6 (i:=0) [1] j5 (a_7 zq zr m8 (a_1 (a_0 1) a_3)))
  (a_2 (x_0 [1,2,6] (a_7 zq zr z8 (a_1 (a_0 2) (a_1 (c_6 c_8 rfl g9 PySem.boot_len (a_1 (a_0 1) a_3)) (a_1 (a_0 6) a_3)))))
  (a_2 (a_8 (i:=7) [1,4,5] (a_7 zq zr p8 (a_1 (a_0 1) (a_1 (a_0 4) (a_1 (a_0 5) a_3)))) nd)
  (a_2 (m_6 (i:=0) [3] j6 (a_0 3))
  (a_6 (m_6 (i:=0) [1,2,4,6,7] c6 (a_7 zq zr q9 (a_1 (a_0 1) (a_1 (a_0 7) (a_1 (a_0 4) (a_1 (a_0 6) (a_1 (a_0 2) a_3)))))))))))))
theorem dm_6(F:Fun K "mark" "mark" (top 32) f fd)(ae5:br_0 P w K mg base)(l5:z_4 P w K mg base)(af2:bq_9 P w K mg base){at7:Tok}(ad5:mg "MARK_SALT" =some (.int 3 at7)):FnX P w K mg base true 4 f fd ["key", "width"] (spX K 2 aa_7):=
 c_9 (N:= ["key", "width"]) F fun zp zq hu nd zr=>(a_6 (b_4 [0,1] (a_7 zq zr ae5 (a_1 (a_7 zq zr af2 (a_1 (a_0 0) a_3)) (a_1 (u_7 rfl ad5) (a_1 (a_7 zq zr l5 (a_1 (a_0 1) a_3)) a_3))))))
theorem aj_0(F:Fun K "__init__" "Marked.__init__" (inC 58 0) f fd){CI:Addr}(hCI:ClsAt K "Marked" CI)(p8:ae_1 P w K mg base)(q9:ae_3 P w K mg base)(ac3:br_1 P w K mg base)(l5:z_4 P w K mg base)(j5:OFld K ["Kept", "Marked", "PeeledAgain", "OrderedAgain", "KeptAgain", "MarkedAgain"] "how_many")(j6:OFld K ["Kept", "Marked", "KeptAgain", "MarkedAgain"] "width")(c6:OFld K ["Kept", "Marked", "PeeledAgain", "OrderedAgain", "KeptAgain", "MarkedAgain"] "own_table")(g9:mg "len" =none):FnX P w K mg base true 9 f fd ["self", "keys", "width", "kind", "most"] (spI K CI 4 r_8):=
 ck_3 (n:=4) (cn:= "Marked") (N:= ["self", "keys", "width", "kind", "most", "salt"]) F hCI (by decide) (by decide) fun zp zq hu nd zr=>(a_2 (a_8 (i:=5) [1,3,4] (a_7 zq zr p8 (a_1 (a_0 1) (a_1 (a_0 3) (a_1 (a_0 4) a_3)))) nd)
  (a_2 (m_6 (i:=0) [1] j5 (c_6 c_8 rfl g9 PySem.boot_len (a_1 (a_0 1) a_3)))
  (a_2 (m_6 (i:=0) [2] j6 (a_0 2))
  (a_6 (m_6 (i:=0) [1,2,3,5] c6 (a_7 zq zr q9 (a_1 (a_0 1) (a_1 (a_0 5) (a_1 (a_0 3) (a_1 (a_7 zq zr l5 (a_1 (a_0 2) a_3)) (a_1 (k_7 (N':= ["self", "keys", "width", "kind", "most", "salt", "key"]) zp (s_2 (a_0 1)) rfl (by kernel_rfl) rfl (fun C s0 H0 fp pn=>⟨(gcM (i:=6)),s_5,(a_7 (m_0 zq) t_2 ac3 (a_1 (a_0 6) (a_1 (a_0 2) a_3)))⟩)) a_3)))))))))))
theorem cb_0(F:Fun K "_law_made" "_law_made" (top 86) f fd)(at3:MakD P w K mg base true "Kept" 9 5 aa_6)(ai2:MakD P w K mg base true "Marked" 9 4 r_8){i7:Addr}(ah4:mg "NoTry" =some (.ref i7))(an4:Catches K i7 [("NoBits",false),("NoKey",false),("NoKeys",false),("NoRange",false),("NoTry",true),("NoValue",false),("Twice",false)]):FnX P w K mg base true 11 f fd ["_law_form", "_law_keys", "_law_values", "_law_width", "_law_kind", "_law_most"] (spX K 6 d_4):=
 c_9 (N:= ["_law_form", "_law_keys", "_law_values", "_law_width", "_law_kind", "_law_most", "_law_found"]) F fun zp zq hu nd zr=>(a_2 (a_8 (i:=6) [] x_7 nd)
  (a_2 (dk_3 nd rfl rfl (fun zc W EXB lkB=>(a_6 (e_4 [0] (c_7 (h_5 hu) (a_0 0) a_4 (b_8 _))
   (a_6 (a_8 (i:=6) [1,2,3,4,5] (ak_6 (bx_7 zq) lkB at3 (a_1 (a_0 1) (a_1 (a_0 2) (a_1 (a_0 3) (a_1 (a_0 4) (a_1 (a_0 5) a_3)))))) nd))
   (a_6 (a_8 (i:=6) [1,3,4,5] (ak_6 (bx_7 zq) lkB ai2 (a_1 (a_0 1) (a_1 (a_0 3) (a_1 (a_0 4) (a_1 (a_0 5) a_3))))) nd))))) (HOk3.bare ah4 an4 (fun e=>(a_6 (a_8 (i:=6) [] x_7 nd))) .nil))
  (a_6 (n_6 6))))
theorem cb_1(F:Fun K "_law_part" "_law_part" (top 83) f fd):FnX P w K mg base true 1 f fd ["_law_many", "_law_kind"] (spX K 2 p_8):=
 c_9 (N:= ["_law_many", "_law_kind"]) F fun zp zq hu nd zr=>(a_6 (b_4 [0,1] (f_1 (s_4 (a_1 (a_5 b_1 (a_5 b_1 (a_0 0) (a_5 g_6 (a_0 0) a_4)) a_4) (a_1 (a_5 b_1 (a_5 g_6 (a_5 b_9 a_4 (a_0 0)) a_4) a_4) a_3))) (a_5 w_9 (a_0 1) a_4))))
theorem bs_0(F:Fun K "_law_stamp" "_law_stamp" (top 81) f fd)(c7:mg "isinstance" =none)(ah0:mg "int" =none)(x5:KitT K "int"):FnX P w K mg base true 1 f fd ["_law_key"] (spX K 1 q_6):=
 c_9 (N:= ["_law_key", "_law_worth", "_law_sign"]) F fun zp zq hu nd zr=>(a_2 (e_4 [0] (e_3 (ac_5 x5 (a_0 0) c7 ah0 PyProof.Rows.boot_int))
   (a_6 (b_4 [0] (a_5 b_9 a_4 (a_0 0))))
   d_3)
  (a_2 (a_8 (i:=1) [] a_4 nd)
  (a_2 (i_5 [0] c_4 zp (s_2 (a_0 0)) (m_5 (i:=2) nd)
   (a_6 (a_8 (i:=1) [1,2] (a_5 b_1 (a_5 b_1 (a_5 b_9 (a_0 1) a_4) (bm_3 PySem.F.plainAttrs_str PySem.F.slot_str_index PySem.F.type_str_index co_9 p_6 (a_1 (a_0 2) a_3))) a_4) nd)))
  (a_6 (b_4 [1] (a_5 b_1 (a_5 b_9 a_4 (a_0 1)) a_4))))))
theorem bs_1(F:Fun K "_law_mixed" "_law_mixed" (top 82) f fd):FnX P w K mg base true 1 f fd ["_law_number", "_law_salt", "_law_size"] (spX K 3 k_3):=
 c_9 (N:= ["_law_number", "_law_salt", "_law_size", "_law_prime", "_law_a", "_law_b", "_law_first"]) F fun zp zq hu nd zr=>(a_2 (a_8 (i:=3) [] a_4 nd)
  (a_2 (a_8 (i:=4) [1,3] (a_5 b_1 a_4 (a_5 d_1 (a_5 b_1 (a_5 b_9 a_4 (a_0 1)) a_4) (a_5 w_9 (a_0 3) a_4))) nd)
  (a_2 (a_8 (i:=5) [1,3] (a_5 d_1 (a_5 b_1 (a_5 b_9 (a_5 b_9 a_4 (a_0 1)) (a_0 1)) (a_5 b_9 a_4 (a_0 1))) (a_0 3)) nd)
  (a_2 (a_8 (i:=6) [0,3,4,5] (a_5 d_1 (a_5 b_1 (a_5 b_9 (a_0 4) (a_0 0)) (a_0 5)) (a_0 3)) nd)
  (a_6 (b_4 [2,6] (a_5 d_1 (a_5 b_1 (a_0 6) (a_5 g_6 (a_0 6) a_4)) (a_0 2))))))))
theorem be_5(F:Fun K "_law_places" "_law_places" (top 84) f fd)(ad2:at_3 P w K mg base)(p9:ae_4 P w K mg base)(ae4:mg "tuple" =none)(c9:mg "range" =none):FnX P w K mg base true 2 f fd ["_law_key", "_law_salt", "_law_kind", "_law_part_here"] (spX K 4 i_0):=
 c_9 (N:= ["_law_key", "_law_salt", "_law_kind", "_law_part_here", "_law_number"]) F fun zp zq hu nd zr=>(a_2 (a_8 (i:=4) [0] (a_7 zq zr ad2 (a_1 (a_0 0) a_3)) nd)
  (a_6 (b_4 [1,2,3,4] (j_3 ax_7 rfl ae4 PyProof.Rows.boot_tuple (a_1 (k_7 (N':= ["_law_key", "_law_salt", "_law_kind", "_law_part_here", "_law_number", "_law_k"]) zp (j_5 c9 (a_1 (a_0 2) a_3)) rfl (by kernel_rfl) rfl (fun C s0 H0 fp pn=>⟨(gcM (i:=5)),s_5,(a_5 b_1 (a_5 b_9 (a_0 5) (a_0 3)) (a_7 (m_0 zq) t_2 p9 (a_1 (a_0 4) (a_1 (a_5 b_1 (a_5 b_9 a_4 (a_0 1)) (a_0 5)) (a_1 (a_0 3) a_3)))))⟩)) a_3)))))
theorem bs_2(F:Fun K "_law_tells" "_law_tells" (top 85) f fd)(ar7:mg "sum" =none):FnX P w K mg base true 1 f fd ["_law_table", "_law_places_here", "_law_modulus"] (spX K 3 k_4):=
 c_9 (N:= ["_law_table", "_law_places_here", "_law_modulus"]) F fun zp zq hu nd zr=>(a_6 (b_4 [0,1,2] (a_5 d_1 (c_6 (bh_3 zp) rfl ar7 PyProof.Rows.boot_sum (a_1 (k_7 (N':= ["_law_table", "_law_places_here", "_law_modulus", "_law_place"]) zp (s_2 (a_0 1)) rfl (by kernel_rfl) rfl (fun C s0 H0 fp pn=>⟨(gcM (i:=3)),s_5,(f_1 (a_0 0) (a_0 3))⟩)) a_3)) (a_0 2))))
theorem be_6(F:Fun K "salt" "Table.salt" (inC 52 1) f fd)(n8:OFld K ["Table"] "by_salt"):FnX P w K mg base true 1 f fd ["self"] (spX K 1 s_0):=
 c_9 (N:= ["self"]) F fun zp zq hu nd zr=>(a_6 (b_4 [0] (j_7 n8 (a_0 0))))
theorem bc_0(F:Fun K "salt" "Marked.salt" (inC 58 2) f fd)(aa2:MethT P w K mg base true 1 0 "salt" [("Table",s_0)])(c6:OFld K ["Kept", "Marked", "PeeledAgain", "OrderedAgain", "KeptAgain", "MarkedAgain"] "own_table"):FnX P w K mg base true 2 f fd ["self"] (spX K 1 f_0):=
 c_9 (N:= ["self"]) F fun zp zq hu nd zr=>(a_6 (b_4 [0] (r_2 aa2 zq zr (j_7 c6 (a_0 0)))))
theorem bc_1(F:Fun K "table" "Table.table" (inC 52 2) f fd)(o8:OFld K ["Table"] "listed")(o5:mg "list" =none):FnX P w K mg base true 1 f fd ["self"] (spX K 1 i_8):=
 c_9 (N:= ["self"]) F fun zp zq hu nd zr=>(a_6 (b_4 [0] (j_3 m_9 rfl o5 PyProof.Rows.boot_list (a_1 (j_7 o8 (a_0 0)) a_3))))
theorem au_6(F:Fun K "table" "Marked.table" (inC 58 3) f fd)(n5:MethT P w K mg base true 1 0 "table" [("Table",i_8)])(c6:OFld K ["Kept", "Marked", "PeeledAgain", "OrderedAgain", "KeptAgain", "MarkedAgain"] "own_table"):FnX P w K mg base true 2 f fd ["self"] (spX K 1 e_6):=
 c_9 (N:= ["self"]) F fun zp zq hu nd zr=>(a_6 (b_4 [0] (r_2 n5 zq zr (j_7 c6 (a_0 0)))))
theorem au_7(F:Fun K "places" "Table.places" (inC 52 3) f fd)(p7:ae_0 P w K mg base)(af1:OFld K ["Table"] "part")(x4:OFld K ["Table"] "kind")(n8:OFld K ["Table"] "by_salt"):FnX P w K mg base true 5 f fd ["self", "key"] (spX K 2 d_6):=
 c_9 (N:= ["self", "key"]) F fun zp zq hu nd zr=>(a_6 (b_4 [0,1] (a_7 zq zr p7 (a_1 (a_0 1) (a_1 (j_7 n8 (a_0 0)) (a_1 (j_7 x4 (a_0 0)) (a_1 (j_7 af1 (a_0 0)) a_3)))))))
theorem bc_2(F:Fun K "total" "Table.total" (inC 52 4) f fd)(aa8:ba_9 P w K mg base)(l9:MethT P w K mg base true 5 1 "places" [("Table",d_6)])(r9:OFld K ["Table"] "modulus")(o8:OFld K ["Table"] "listed"):FnX P w K mg base true 6 f fd ["self", "key"] (spX K 2 b_7):=
 c_9 (N:= ["self", "key"]) F fun zp zq hu nd zr=>(a_6 (b_4 [0,1] (a_7 zq zr aa8 (a_1 (j_7 o8 (a_0 0)) (a_1 (p_3 l9 zq zr (a_0 0) (a_1 (a_0 1) a_3)) (a_1 (j_7 r9 (a_0 0)) a_3))))))
theorem au_8(F:Fun K "knows" "Marked.knows" (inC 58 5) f fd)(ac3:br_1 P w K mg base)(j2:MethT P w K mg base true 6 1 "total" [("Table",b_7)])(c6:OFld K ["Kept", "Marked", "PeeledAgain", "OrderedAgain", "KeptAgain", "MarkedAgain"] "own_table")(j6:OFld K ["Kept", "Marked", "KeptAgain", "MarkedAgain"] "width"):FnX P w K mg base true 7 f fd ["self", "key"] (spX K 2 b_6):=
 c_9 (N:= ["self", "key"]) F fun zp zq hu nd zr=>(a_6 (b_4 [0,1] (u_1 (h_5 hu) (p_3 j2 zq zr (j_7 c6 (a_0 0)) (a_1 (a_0 1) a_3)) (a_7 zq zr ac3 (a_1 (a_0 1) (a_1 (j_7 j6 (a_0 0)) a_3))) (b_8 _))))
theorem aq_5(F:Fun K "places" "Marked.places" (inC 58 4) f fd)(l9:MethT P w K mg base true 5 1 "places" [("Table",d_6)])(c6:OFld K ["Kept", "Marked", "PeeledAgain", "OrderedAgain", "KeptAgain", "MarkedAgain"] "own_table"):FnX P w K mg base true 6 f fd ["self", "key"] (spX K 2 e_7):=
 c_9 (N:= ["self", "key"]) F fun zp zq hu nd zr=>(a_6 (b_4 [0,1] (p_3 l9 zq zr (j_7 c6 (a_0 0)) (a_1 (a_0 1) a_3))))
theorem be_7(F:Fun K "value" "Kept.value" (inC 57 5) f fd)(j2:MethT P w K mg base true 6 1 "total" [("Table",b_7)])(c6:OFld K ["Kept", "Marked", "PeeledAgain", "OrderedAgain", "KeptAgain", "MarkedAgain"] "own_table"):FnX P w K mg base true 7 f fd ["self", "key"] (spX K 2 d_9):=
 c_9 (N:= ["self", "key"]) F fun zp zq hu nd zr=>(a_6 (b_4 [0,1] (p_3 j2 zq zr (j_7 c6 (a_0 0)) (a_1 (a_0 1) a_3))))
theorem be_8(F:Fun K "table" "Kept.table" (inC 57 3) f fd)(n5:MethT P w K mg base true 1 0 "table" [("Table",i_8)])(c6:OFld K ["Kept", "Marked", "PeeledAgain", "OrderedAgain", "KeptAgain", "MarkedAgain"] "own_table"):FnX P w K mg base true 2 f fd ["self"] (spX K 1 i_1):=
 c_9 (N:= ["self"]) F fun zp zq hu nd zr=>(a_6 (b_4 [0] (r_2 n5 zq zr (j_7 c6 (a_0 0)))))
theorem bs_3(F:Fun K "_law_range" "_law_range" (top 87) f fd)(af6:bb_1 P w K mg base)(ab9:an_2 P w K mg base)(y7:at_4 P w K mg base)(p9:ae_4 P w K mg base)(n6:MethT P w K mg base true 2 0 "salt" [("Marked",f_0)])(l7:MethT P w K mg base true 2 0 "table" [("Marked",e_6)])(m6:MethT P w K mg base true 7 1 "knows" [("Marked",b_6)])(u7:MethT P w K mg base true 6 1 "places" [("Marked",e_7)])(m9:MethT P w K mg base true 7 1 "value" [("Kept",d_9)])(aa3:MethT P w K mg base true 2 0 "table" [("Kept",i_1)])(g9:mg "len" =none)(c7:mg "isinstance" =none)(ab7:mg "bool" =none)(r0:KitT K "bool"):FnX P w K mg base true 8 f fd ["_law_kept", "_law_marked", "_law_keys", "_law_numbers", "_law_kind", "_law_modulus"] (spX K 6 q_7):=
 c_9 (N:= ["_law_kept", "_law_marked", "_law_keys", "_law_numbers", "_law_kind", "_law_modulus", "_law_part_here", "_law_known", "_law_number", "_law_places_here", "_law_due", "_law_known_here"]) F fun zp zq hu nd zr=>(a_2 (a_8 (i:=6) [2,4] (a_7 zq zr af6 (a_1 (c_6 c_8 rfl g9 PySem.boot_len (a_1 (a_0 2) a_3)) (a_1 (a_0 4) a_3))) nd)
  (a_2 (a_8 (i:=7) [] (s_4 a_3) nd)
  (a_2 (i_5 [3] c_4 zp (s_2 (a_0 3)) (m_5 (i:=8) nd)
   (a_2 (a_8 (i:=9) [1,4,6,8] (a_7 zq zr ab9 (a_1 (a_0 8) (a_1 (r_2 n6 zq zr (a_0 1)) (a_1 (a_0 4) (a_1 (a_0 6) a_3))))) nd)
  (a_2 (a_8 (i:=10) [1,5,8,9] (u_1 (h_5 hu) (a_7 zq zr y7 (a_1 (r_2 l7 zq zr (a_0 1)) (a_1 (a_0 9) (a_1 (a_0 5) a_3)))) (a_7 zq zr p9 (a_1 (a_5 b_9 a_4 (a_0 8)) (a_1 a_4 (a_1 (a_0 5) a_3)))) (b_8 _)) nd)
  (a_2 (a_8 (i:=11) [1,8] (p_3 m6 zq zr (a_0 1) (a_1 (a_0 8) a_3)) nd)
  (a_2 (e_4 [1,8,9,10,11] (td_w (aj_8 (ao_0 (e_3 (ac_5 r0 (a_0 11) c7 ab7 ao_4))) (aj_8 (c_7 (v_5 hu) (a_0 11) (a_0 10) (b_8 _)) (ac_1 (c_7 (v_5 hu) (p_3 u7 zq zr (a_0 1) (a_1 (a_0 8) a_3)) (a_0 9) (b_8 _))))))
   (a_6 (b_4 [] x_7))
   d_3)
  (a_2 (e_4 [0,5,8,9] (c_7 (v_5 hu) (p_3 m9 zq zr (a_0 0) (a_1 (a_0 8) a_3)) (a_7 zq zr y7 (a_1 (r_2 aa3 zq zr (a_0 0)) (a_1 (a_0 9) (a_1 (a_0 5) a_3)))) (b_8 _))
   (a_6 (b_4 [] x_7))
   d_3)
  (a_6 (e_4 [2,8,10] (td_w (bl_1 (e_3 (a_0 10)) (av_0 (c_7 bg_5 (a_0 8) (a_0 2) (by with_unfolding_all rfl)))))
   (a_6 (ao_3 (i:=7) (a_0 8)))
   d_3))))))))
  (a_6 (n_6 7)))))
theorem ae_5(F:Fun K "knows" "Marked.knows" (inC 58 5) f fd)(ac3:br_1 P w K mg base)(j2:MethT P w K mg base true 6 1 "total" [("Table",b_7)])(c6:OFld K ["Kept", "Marked", "PeeledAgain", "OrderedAgain", "KeptAgain", "MarkedAgain"] "own_table")(j6:OFld K ["Kept", "Marked", "KeptAgain", "MarkedAgain"] "width"):FnX P w K mg base true 7 f fd ["self", "key"] (spX K 2 c_5):=
 c_9 (N:= ["self", "key"]) F fun zp zq hu nd zr=>(a_6 (b_4 [0,1] (u_1 (h_5 hu) (p_3 j2 zq zr (j_7 c6 (a_0 0)) (a_1 (a_0 1) a_3)) (a_7 zq zr ac3 (a_1 (a_0 1) (a_1 (j_7 j6 (a_0 0)) a_3))) (b_8 _))))
theorem cb_2(F:Fun K "mistaken" "mistaken" (top 59) f fd)(l8:u_5 P w K mg base)(l3:MethT P w K mg base true 7 1 "knows" [("Marked",b_6),("MarkedAgain",c_5)])(cc7:mg "max" =none)(ag9:mg "min" =none)(c9:mg "range" =none){j3:Addr}(af5:XC0 K mg "NoRange" j3){aj2:Tok}(u4:mg "MOST_LOOKED_AT" =some (.int 2000 aj2)){r6:Tok}(k7:mg "GREATEST_NUMBER" =some (.int 999999999999999999 r6)):FnX P w K mg base true 8 f fd ["marked", "keys", "low", "high"] (spX K 4 p_9):=
 c_9 (N:= ["marked", "keys", "low", "high", "own", "key", "start", "end"]) F fun zp zq hu nd zr=>(a_2 (x_0 [1] (a_7 zq zr l8 (a_1 (a_0 1) a_3)))
  (a_2 (e_4 [2,3] (c_7 cw_2 (a_5 w_9 (a_0 3) (a_0 2)) (u_7 rfl u4) (b_8 _))
   (a_6 (ap_6 af5 (RoomC.mono zq (by decide)) r_5))
   d_3)
  (a_2 (a_8 (i:=4) [] av_5 nd)
  (a_2 (i_5 [1] c_4 zp (s_2 (a_0 1)) (m_5 (i:=5) nd)
   (a_6 (bm_5 (i:=4) [] hu aj_7 (a_0 5))))
  (a_2 (a_8 (i:=6) [2] (c_6 (co_4 zp) rfl cc7 PyProof.Rows.boot_max (a_1 (a_0 2) (a_1 a_4 a_3))) nd)
  (a_2 (a_8 (i:=7) [3] (a_5 b_1 (c_6 (bg_6 zp) rfl ag9 PyProof.Rows.boot_min (a_1 (a_0 3) (a_1 (u_7 rfl k7) a_3))) a_4) nd)
  (a_6 (b_4 [0,4,6,7] (k_7 (N':= ["marked", "keys", "low", "high", "own", "key", "start", "end", "number"]) zp (co_5 c9 (a_1 (a_0 6) (a_1 (a_0 7) a_3))) rfl (by kernel_rfl) rfl (fun C s0 H0 fp pn=>⟨(gcM (i:=8)),(ax_8 (td_w (bl_1 (c_7 (ap_0 hu) (a_0 8) (a_0 4) (by with_unfolding_all rfl)) (av_0 (e_3 (p_3 l3 (m_0 zq) t_2 (a_0 0) (a_1 (a_0 8) a_3))))))),(a_0 8)⟩))))))))))
theorem bc_3(F:Fun K "is_multiple" "is_multiple" (top 15) f fd):FnX P w K mg base true 1 f fd ["length", "width"] (spX K 2 o_9):=
 c_9 (N:= ["length", "width"]) F fun zp zq hu nd zr=>(a_2 (e_4 [1] (c_7 ax_6 (a_0 1) a_4 (b_8 _))
   (a_6 (b_4 [0] (u_1 (h_5 hu) (a_0 0) a_4 (b_8 _))))
   d_3)
  (a_6 (b_4 [0,1] (u_1 (h_5 hu) (a_5 d_1 (a_0 0) (a_0 1)) a_4 (b_8 _)))))
theorem bs_4(F:Fun K "look_bits" "look_bits" (top 16) f fd)(aa5:ah_1 P w K mg base)(g8:mg "enumerate" =none)(g9:mg "len" =none){i8:Addr}(y0:XC P w K mg base "NoBits" "at" i8):FnX P w K mg base true 3 f fd ["bits", "width"] (spX K 2 t_7):=
 c_9 (N:= ["bits", "width", "place", "sign"]) F fun zp zq hu nd zr=>(a_2 (i_5 [0] c_4 zp (ae_6 g8 (a_0 0)) (ah_6 (i:=2) (j:=3) zp nd)
   (a_6 (e_4 [3] (td_w (bl_1 (c_7 (v_5 hu) (a_0 3) p_6 (b_8 _)) (av_0 (c_7 (v_5 hu) (a_0 3) p_6 (b_8 _)))))
   (a_6 (t_6 [2] y0 (RoomC.mono zq (by decide)) r_5 (a_0 2)))
   d_3)))
  (a_6 (e_4 [0,1] (ao_0 (e_3 (a_7 zq zr aa5 (a_1 (c_6 c_8 rfl g9 PySem.boot_len (a_1 (a_0 0) a_3)) (a_1 (a_0 1) a_3)))))
   (a_6 (t_6 [0] y0 (RoomC.mono zq (by decide)) r_5 (c_6 c_8 rfl g9 PySem.boot_len (a_1 (a_0 0) a_3))))
   d_3)))
theorem bc_4(F:Fun K "number_read" "number_read" (top 17) f fd):FnX P w K mg base true 1 f fd ["bits"] (spX K 1 p_0):=
 c_9 (N:= ["bits", "number", "sign"]) F fun zp zq hu nd zr=>(a_2 (a_8 (i:=1) [] a_4 nd)
  (a_2 (i_5 [0] c_4 zp (s_2 (a_0 0)) (m_5 (i:=2) nd)
   (a_6 (a_8 (i:=1) [1,2] (a_5 b_1 (a_5 b_9 a_4 (a_0 1)) (cv_1 (c_7 (h_5 hu) (a_0 2) p_6 (b_8 _)) a_4 a_4)) nd)))
  (a_6 (n_6 1))))
theorem bs_5(F:Fun K "read_bits" "read_bits" (top 18) f fd)(ad4:at_6 P w K mg base)(aa6:ah_2 P w K mg base)(g9:mg "len" =none):FnX P w K mg base true 4 f fd ["bits", "width"] (spX K 2 t_8):=
 c_9 (N:= ["bits", "width", "numbers", "start"]) F fun zp zq hu nd zr=>(a_2 (x_0 [0,1] (a_7 zq zr ad4 (a_1 (a_0 0) (a_1 (a_0 1) a_3))))
  (a_2 (a_8 (i:=2) [] (s_4 a_3) nd)
  (a_2 (a_8 (i:=3) [] a_4 nd)
  (a_2 (bu_5 [0,3] 3000 c_4 (c_7 ax_6 (a_0 3) (c_6 c_8 rfl g9 PySem.boot_len (a_1 (a_0 0) a_3)) (b_8 _))
   (a_2 (ao_3 (i:=2) (a_7 zq zr aa6 (a_1 (bv_0 (a_0 0) (bm_1 (a_0 3)) (bm_1 (a_5 b_1 (a_0 3) (a_0 1)))) a_3)))
  (a_6 (a_8 (i:=3) [1,3] (a_5 b_1 (a_0 3) (a_0 1)) nd))))
  (a_6 (n_6 2))))))
theorem aq_6(F:Fun K "numbers_again" "numbers_again" (top 73) f fd)(ac9:at_7 P w K mg base):FnX P w K mg base true 5 f fd ["bits", "width", "size"] (spX K 3 l_8):=
 c_9 (N:= ["bits", "width", "size"]) F fun zp zq hu nd zr=>(a_6 (b_4 [0,1,2] (cv_1 (c_7 cc_7 (a_0 1) a_4 (b_8 _)) (a_7 zq zr ac9 (a_1 (a_0 0) (a_1 (a_0 1) a_3))) (cx_7 (a_1 a_4 a_3) (a_0 2)))))
theorem z_6(F:Fun K "__init__" "MarkedAgain.__init__" (inC 70 0) f fd){CI:Addr}(hCI:ClsAt K "MarkedAgain" CI)(j5:OFld K ["Kept", "Marked", "PeeledAgain", "OrderedAgain", "KeptAgain", "MarkedAgain"] "how_many")(c6:OFld K ["Kept", "Marked", "PeeledAgain", "OrderedAgain", "KeptAgain", "MarkedAgain"] "own_table")(j6:OFld K ["Kept", "Marked", "KeptAgain", "MarkedAgain"] "width"):FnX P w K mg base true 1 f fd ["self", "how_many", "own_table", "width"] (spI K CI 3 p_2):=
 ck_3 (n:=3) (cn:= "MarkedAgain") (N:= ["self", "how_many", "own_table", "width"]) F hCI (by decide) (by decide) fun zp zq hu nd zr=>(a_2 (m_6 (i:=0) [1] j5 (a_0 1))
  (a_2 (m_6 (i:=0) [2] c6 (a_0 2))
  (a_6 (m_6 (i:=0) [3] j6 (a_0 3)))))
theorem cb_3(F:Fun K "house_of" "house_of" (top 74) f fd)(j4:u_0 P w K mg base)(v7:ab_9 P w K mg base)(l5:z_4 P w K mg base)(ab3:MakD P w K mg base true "Table" 1 5 aa_5)(y3:MakD P w K mg base true "MarkedAgain" 1 3 p_2):FnX P w K mg base true 6 f fd ["name", "kind", "salt", "many", "width", "bits", "used"] (spX K 7 w_2):=
 c_9 (N:= ["name", "kind", "salt", "many", "width", "bits", "used", "part", "listed", "own_table"]) F fun zp zq hu nd zr=>(a_2 (a_8 (i:=7) [1,3] (a_7 zq zr j4 (a_1 (a_0 3) (a_1 (a_0 1) a_3))) nd)
  (a_2 (a_8 (i:=8) [1,4,5,7] (a_7 zq zr v7 (a_1 (a_0 5) (a_1 (a_0 4) (a_1 (a_5 b_9 (a_0 1) (a_0 7)) a_3)))) nd)
  (a_2 (e_4 [0] (c_7 (h_5 hu) (a_0 0) p_6 (b_8 _))
   (a_6 y_6)
   d_3)
  (a_2 (e_4 [0] (c_7 (h_5 hu) (a_0 0) p_6 (b_8 _))
   (a_6 y_6)
   d_3)
  (a_2 (a_8 (i:=9) [1,2,4,7,8] (ak_6 zq zr ab3 (a_1 (a_0 2) (a_1 (a_0 1) (a_1 (a_0 7) (a_1 (a_7 zq zr l5 (a_1 (a_0 4) a_3)) (a_1 (a_0 8) a_3)))))) nd)
  (a_2 (e_4 [0] (c_7 (h_5 hu) (a_0 0) p_6 (b_8 _))
   (a_6 y_6)
   d_3)
  (a_6 (b_4 [3,4,9] (ak_6 zq zr y3 (a_1 (a_0 3) (a_1 (a_0 9) (a_1 (a_0 4) a_3))))))))))))
theorem be_9(F:Fun K "made_again" "made_again" (top 75) f fd)(ag0:bb_3 P w K mg base):FnX P w K mg base true 7 f fd ["what"] (spX K 1 i_2):=
 c_9 (N:= ["what"]) F fun zp zq hu nd zr=>(a_6 (b_4 [0] (a_7 zq zr ag0 (a_1 (f_1 (a_0 0) a_4) (a_1 (f_1 (a_0 0) a_4) (a_1 (f_1 (a_0 0) a_4) (a_1 (f_1 (a_0 0) a_4) (a_1 (f_1 (a_0 0) a_4) (a_1 (f_1 (a_0 0) a_4) (a_1 (f_1 (a_0 0) a_4) a_3))))))))))
theorem an_7(F:Fun K "number_written" "number_written" (top 13) f fd)(c9:mg "range" =none)(ah6:mg "str" =none):FnX P w K mg base true 1 f fd ["number", "width"] (spX K 2 j_9):=
 c_9 (N:= ["number", "width", "signs", "rest", "turn"]) F fun zp zq hu nd zr=>(a_2 (a_8 (i:=2) [] p_6 nd)
  (a_2 (a_8 (i:=3) [0] (a_0 0) nd)
  (a_2 (i_5 [1] c_4 zp (j_5 c9 (a_1 (a_0 1) a_3)) (m_5 (i:=4) nd)
   (a_2 (a_8 (i:=2) [2,3] (a_5 b_1 (j_3 cc_8 rfl ah6 PyProof.Rows.boot_str (a_1 (a_5 d_1 (a_0 3) a_4) a_3)) (a_0 2)) nd)
  (a_6 (a_8 (i:=3) [3] (a_5 g_6 (a_0 3) a_4) nd))))
  (a_6 (n_6 2)))))
theorem cg_9(F:Fun K "written" "written" (top 14) f fd)(l5:z_4 P w K mg base)(k8:w_5 P w K mg base)(u6:z_5 P w K mg base)(g8:mg "enumerate" =none){i8:Addr}(y0:XC P w K mg base "NoBits" "at" i8):FnX P w K mg base true 3 f fd ["numbers", "width"] (spX K 2 y_8):=
 c_9 (N:= ["numbers", "width", "limit", "place", "number"]) F fun zp zq hu nd zr=>(a_2 (a_8 (i:=2) [1] (a_7 zq zr l5 (a_1 (a_0 1) a_3)) nd)
  (a_2 (i_5 [0] c_4 zp (ae_6 g8 (a_0 0)) (ah_6 (i:=3) (j:=4) zp nd)
   (a_6 (e_4 [2,4] (ao_0 (e_3 (a_7 zq zr k8 (a_1 (a_0 4) (a_1 (a_0 2) a_3)))))
   (a_6 (t_6 [3] y0 (RoomC.mono zq (by decide)) r_5 (a_0 3)))
   d_3)))
  (a_6 (b_4 [0,1] (bm_3 PySem.F.plainAttrs_str PySem.F.slot_str_join PySem.F.type_str_join cx_1 p_6 (a_1 (k_7 (N':= ["numbers", "width", "limit", "place", "?4", "number"]) zp (s_2 (a_0 0)) rfl (by kernel_rfl) rfl (fun C s0 H0 fp pn=>⟨(gcM (i:=5)),s_5,(a_7 (m_0 zq) t_2 u6 (a_1 (a_0 5) (a_1 (a_0 1) a_3)))⟩)) a_3))))))
theorem bc_5(F:Fun K "many" "Marked.many" (inC 58 1) f fd)(j5:OFld K ["Kept", "Marked", "PeeledAgain", "OrderedAgain", "KeptAgain", "MarkedAgain"] "how_many"):FnX P w K mg base true 1 f fd ["self"] (spX K 1 m_2):=
 c_9 (N:= ["self"]) F fun zp zq hu nd zr=>(a_6 (b_4 [0] (j_7 j5 (a_0 0))))
theorem ch_0(F:Fun K "told_by" "told_by" (top 71) f fd)(aj8:bj_9 P w K mg base)(l7:MethT P w K mg base true 2 0 "table" [("Marked",e_6)])(x9:MethT P w K mg base true 1 0 "many" [("Marked",m_2)])(n6:MethT P w K mg base true 2 0 "salt" [("Marked",f_0)])(x4:OFld K ["Table"] "kind")(c6:OFld K ["Kept", "Marked", "PeeledAgain", "OrderedAgain", "KeptAgain", "MarkedAgain"] "own_table"):FnX P w K mg base true 4 f fd ["name", "house", "width", "used"] (spX K 4 v_3):=
 c_9 (N:= ["name", "house", "width", "used", "bits"]) F fun zp zq hu nd zr=>(a_2 (a_8 (i:=4) [1,2] (a_7 zq zr aj8 (a_1 (r_2 l7 zq zr (a_0 1)) (a_1 (a_0 2) a_3))) nd)
  (a_6 (b_4 [0,1,2,3,4] (cv_2 (a_1 (a_0 0) (a_1 (j_7 x4 (j_7 c6 (a_0 1))) (a_1 (r_2 n6 zq zr (a_0 1)) (a_1 (r_2 x9 zq zr (a_0 1)) (a_1 (a_0 2) (a_1 (a_0 4) (a_1 (a_0 3) a_3)))))))))))
theorem bf_0(F:Fun K "house_told" "house_told" (top 72) f fd)(aj6:bk_0 P w K mg base)(j6:OFld K ["Kept", "Marked", "KeptAgain", "MarkedAgain"] "width")(c7:mg "isinstance" =none){ab2:Addr}(ai3:IsOneO K (.ref ab2) [("Marked",false)])(ai1:mg "Peeled" =some (.ref ab2)){x8:Addr}(ag6:IsOneO K (.ref x8) [("Marked",false)])(ag4:mg "Ordered" =some (.ref x8)){l6:Addr}(as7:IsOneO K (.ref l6) [("Marked",false)])(al7:mg "Kept" =some (.ref l6)){c8:Addr}(aj7:IsOneO K (.ref c8) [("Marked",true)])(af0:mg "Marked" =some (.ref c8)):FnX P w K mg base true 5 f fd ["house"] (spX K 1 l_0):=
 c_9 (N:= ["house"]) F fun zp zq hu nd zr=>(a_2 (e_4 [0] (e_3 (bo_2 ai3 (a_0 0) c7 ai1))
   (a_6 y_6)
   d_3)
  (a_2 (e_4 [0] (e_3 (bo_2 ag6 (a_0 0) c7 ag4))
   (a_6 y_6)
   d_3)
  (a_2 (e_4 [0] (e_3 (bo_2 as7 (a_0 0) c7 al7))
   (a_6 y_6)
   d_3)
  (a_2 (e_4 [0] (e_3 (bo_2 aj7 (a_0 0) c7 af0))
   (a_6 (b_4 [0] (a_7 zq zr aj6 (a_1 p_6 (a_1 (a_0 0) (a_1 (j_7 j6 (a_0 0)) (a_1 p_6 a_3)))))))
   d_3)
  (a_6 (b_4 [] x_7))))))
theorem du_9(F:Fun K "law" "law" (top 88) f fd)(ad6:at_2 P w K mg base)(u9:z_3 P w K mg base)(u0:bb_0 P w K mg base)(y8:at_5 P w K mg base)(ab8:bb_2 P w K mg base)(ac0:an_3 P w K mg base)(ac2:an_4 P w K mg base)(m9:MethT P w K mg base true 7 1 "value" [("Kept",d_9)])(m6:MethT P w K mg base true 7 1 "knows" [("Marked",b_6)])(c9:mg "range" =none)(g9:mg "len" =none)(o5:mg "list" =none)(c7:mg "isinstance" =none)(ah0:mg "int" =none)(ag9:mg "min" =none)(p6:mg "reversed" =none)(x5:KitT K "int"):FnX P w K mg base true 12 f fd ["_law_script"] (spX K 1 da_3):=
 c_9 (N:= ["_law_script", "_law_draws_here", "_law_keys", "_law_width", "_law_modulus", "_law_k", "_law_kind", "_law_most", "_law_values", "_law_kept", "_law_marked", "_law_low", "_law_numbers", "_law_due", "_law_again"]) F fun zp zq hu nd zr=>(a_2 (a_8 (i:=1) [0] (a_7 zq zr ad6 (a_1 (a_0 0) (a_1 a_4 a_3))) nd)
  (a_2 (a_8 (i:=2) [1] (a_7 zq zr u9 (a_1 (a_0 1) (a_1 a_4 (a_1 (a_5 b_1 a_4 (a_5 d_1 (f_1 (a_0 1) a_4) a_4)) a_3)))) nd)
  (a_2 (a_8 (i:=3) [1] (a_5 b_1 a_4 (a_5 d_1 (f_1 (a_0 1) a_4) a_4)) nd)
  (a_2 (a_8 (i:=4) [] a_4 nd)
  (a_2 (i_5 [3] c_4 zp (j_5 c9 (a_1 (a_0 3) a_3)) (m_5 (i:=5) nd)
   (a_6 (a_8 (i:=4) [4] (a_5 b_9 a_4 (a_0 4)) nd)))
  (a_2 (a_8 (i:=6) [1] (a_5 b_1 a_4 (a_5 d_1 (f_1 (a_0 1) a_4) a_4)) nd)
  (a_2 (a_8 (i:=7) [1] (a_5 b_1 a_4 (a_5 d_1 (a_5 g_6 (f_1 (a_0 1) a_4) a_4) a_4)) nd)
  (a_2 (bm_0 (i:=8) [1,2,4] (N':= ["_law_script", "_law_draws_here", "_law_keys", "_law_width", "_law_modulus", "?5", "_law_kind", "_law_most", "_law_values", "_law_kept", "_law_marked", "_law_low", "_law_numbers", "_law_due", "_law_again", "_law_k"]) zp (j_5 c9 (a_1 (c_6 c_8 rfl g9 PySem.boot_len (a_1 (a_0 2) a_3)) a_3)) rfl (by kernel_rfl) rfl (fun C s0 H0 fp pn=>⟨(gcM (i:=15)),s_5,(a_5 d_1 (f_1 (a_0 1) (a_5 b_1 a_4 (a_0 15))) (a_0 4))⟩) nd)
  (a_2 (a_8 (i:=9) [2,3,6,7,8] (a_7 zq zr u0 (a_1 a_4 (a_1 (j_3 m_9 rfl o5 PyProof.Rows.boot_list (a_1 (a_0 2) a_3)) (a_1 (j_3 m_9 rfl o5 PyProof.Rows.boot_list (a_1 (a_0 8) a_3)) (a_1 (a_0 3) (a_1 (a_0 6) (a_1 (a_0 7) a_3))))))) nd)
  (a_2 (a_8 (i:=10) [2,3,6,7,8] (a_7 zq zr u0 (a_1 a_4 (a_1 (j_3 m_9 rfl o5 PyProof.Rows.boot_list (a_1 (a_0 2) a_3)) (a_1 (a_0 8) (a_1 (a_0 3) (a_1 (a_0 6) (a_1 (a_0 7) a_3))))))) nd)
  (a_2 (e_4 [9,10] (td_w (aj_8 (c_7 ak_2 (a_0 9) x_7 (b_8 _)) (ac_1 (c_7 ak_2 (a_0 10) x_7 (b_8 _)))))
   (a_6 (b_4 [9,10] (bl_3 (u_1 ak_2 (a_0 9) x_7 (b_8 _)) (bl_2 (u_1 ak_2 (a_0 10) x_7 (b_8 _))))))
   d_3)
  (a_2 (e_4 [2,8,9,10] (td_w (aj_8 (c_7 (v_5 hu) (k_7 (N':= ["_law_script", "_law_draws_here", "_law_keys", "_law_width", "_law_modulus", "_law_k", "_law_kind", "_law_most", "_law_values", "_law_kept", "_law_marked", "_law_low", "_law_numbers", "_law_due", "_law_again", "_law_key"]) zp (s_2 (a_0 2)) rfl (by kernel_rfl) rfl (fun C s0 H0 fp pn=>⟨(gcM (i:=15)),s_5,(p_3 m9 (m_0 zq) t_2 (a_0 9) (a_1 (a_0 15) a_3))⟩)) (a_0 8) (b_8 _)) (ac_1 (c_7 (v_5 hu) (k_7 (N':= ["_law_script", "_law_draws_here", "_law_keys", "_law_width", "_law_modulus", "_law_k", "_law_kind", "_law_most", "_law_values", "_law_kept", "_law_marked", "_law_low", "_law_numbers", "_law_due", "_law_again", "_law_key"]) zp (s_2 (a_0 2)) rfl (by kernel_rfl) rfl (fun C s0 H0 fp pn=>⟨(gcM (i:=15)),(ax_8 (c_7 da_0 (p_3 m6 (m_0 zq) t_2 (a_0 10) (a_1 (a_0 15) a_3)) aj_7 (b_8 _))),(a_0 15)⟩)) (s_4 a_3) (b_8 _)))))
   (a_6 (b_4 [] aj_7))
   d_3)
  (a_2 (a_8 (i:=11) [1] (a_5 b_9 (a_5 g_6 (f_1 (a_0 1) a_4) a_4) a_4) nd)
  (a_2 (e_4 [1,2] (td_w (bl_1 (c_7 (h_5 hu) (a_5 d_1 (f_1 (a_0 1) a_4) a_4) a_4 (b_8 _)) (av_0 (e_3 (ac_5 x5 (f_1 (a_0 2) a_4) c7 ah0 PyProof.Rows.boot_int)))))
   (a_6 (a_8 (i:=11) [2] (c_6 (bg_6 zp) rfl ag9 PyProof.Rows.boot_min (a_1 (f_1 (a_0 2) a_4) (a_1 (a_5 w_9 (a_5 ci_2 a_4 a_4) a_4) a_3))) nd))
   d_3)
  (a_2 (a_8 (i:=12) [1,11] (bd_0 zp o5 c9 (a_1 (a_0 11) (a_1 (a_5 b_1 (a_5 b_1 (a_0 11) a_4) (a_5 d_1 (a_5 g_6 (f_1 (a_0 1) a_4) a_4) a_4)) a_3))) nd)
  (a_2 (a_8 (i:=13) [2,4,6,9,10,12] (a_7 zq zr y8 (a_1 (a_0 9) (a_1 (a_0 10) (a_1 (a_0 2) (a_1 (a_0 12) (a_1 (a_0 6) (a_1 (a_0 4) a_3))))))) nd)
  (a_2 (e_4 [2,10,11,12,13] (td_w (aj_8 (c_7 ak_2 (a_0 13) x_7 (b_8 _)) (ac_1 (c_7 (v_5 hu) (a_7 zq zr ab8 (a_1 (a_0 10) (a_1 (j_3 m_9 rfl o5 PyProof.Rows.boot_list (a_1 (a_0 2) a_3)) (a_1 (a_0 11) (a_1 (a_5 w_9 (a_5 b_1 (a_0 11) (c_6 c_8 rfl g9 PySem.boot_len (a_1 (a_0 12) a_3))) a_4) a_3))))) (a_0 13) (b_8 _)))))
   (a_6 (b_4 [] aj_7))
   d_3)
  (a_2 (x_0 [2,3,4,6,7,8] (a_7 zq zr u0 (a_1 a_4 (a_1 (k_7 (N':= ["_law_script", "_law_draws_here", "_law_keys", "_law_width", "_law_modulus", "_law_k", "_law_kind", "_law_most", "_law_values", "_law_kept", "_law_marked", "_law_low", "_law_numbers", "_law_due", "_law_again", "_law_key"]) zp (cd_5 p6 (a_0 2)) rfl (by kernel_rfl) rfl (fun C s0 H0 fp pn=>⟨(gcM (i:=15)),s_5,(a_0 15)⟩)) (a_1 (k_7 (N':= ["_law_script", "_law_draws_here", "_law_keys", "_law_width", "_law_modulus", "_law_k", "_law_kind", "_law_most", "_law_values", "_law_kept", "_law_marked", "_law_low", "_law_numbers", "_law_due", "_law_again", "_law_value"]) zp (s_2 (a_0 8)) rfl (by kernel_rfl) rfl (fun C s0 H0 fp pn=>⟨(gcM (i:=15)),s_5,(a_5 d_1 (a_5 b_1 (a_0 15) a_4) (a_0 4))⟩)) (a_1 (a_0 3) (a_1 (a_0 6) (a_1 (a_0 7) a_3))))))))
  (a_2 (x_0 [2,3,6,7,8] (a_7 zq zr u0 (a_1 a_4 (a_1 (a_5 b_1 (k_7 (N':= ["_law_script", "_law_draws_here", "_law_keys", "_law_width", "_law_modulus", "_law_k", "_law_kind", "_law_most", "_law_values", "_law_kept", "_law_marked", "_law_low", "_law_numbers", "_law_due", "_law_again", "_law_key"]) zp (s_2 (bv_0 (a_0 2) (bm_1 a_4) dh_5)) rfl (by kernel_rfl) rfl (fun C s0 H0 fp pn=>⟨(gcM (i:=15)),(ax_8 (c_7 (v_5 hu) (a_0 15) p_6 (b_8 _))),(a_0 15)⟩)) (s_4 (a_1 p_6 a_3))) (a_1 (a_0 8) (a_1 (a_5 b_1 a_4 (a_5 d_1 (a_0 3) a_4)) (a_1 (a_0 6) (a_1 (a_0 7) a_3))))))))
  (a_2 (e_4 [2,4,6,8,9,10,12,13] (td_w (aj_8 (c_7 (v_5 hu) (k_7 (N':= ["_law_script", "_law_draws_here", "_law_keys", "_law_width", "_law_modulus", "_law_k", "_law_kind", "_law_most", "_law_values", "_law_kept", "_law_marked", "_law_low", "_law_numbers", "_law_due", "_law_again", "_law_key"]) zp (s_2 (a_0 2)) rfl (by kernel_rfl) rfl (fun C s0 H0 fp pn=>⟨(gcM (i:=15)),s_5,(p_3 m9 (m_0 zq) t_2 (a_0 9) (a_1 (a_0 15) a_3))⟩)) (a_0 8) (b_8 _)) (ac_1 (c_7 (v_5 hu) (a_7 zq zr y8 (a_1 (a_0 9) (a_1 (a_0 10) (a_1 (a_0 2) (a_1 (a_0 12) (a_1 (a_0 6) (a_1 (a_0 4) a_3))))))) (a_0 13) (b_8 _)))))
   (a_6 (b_4 [] aj_7))
   d_3)
  (a_2 (a_8 (i:=14) [10] (a_7 zq zr ac0 (a_1 (a_7 zq zr ac2 (a_1 (a_0 10) a_3)) a_3)) nd)
  (a_6 (b_4 [2,11,12,13,14] (u_1 (h_5 hu) (a_7 zq zr ab8 (a_1 (a_0 14) (a_1 (k_7 (N':= ["_law_script", "_law_draws_here", "_law_keys", "_law_width", "_law_modulus", "_law_k", "_law_kind", "_law_most", "_law_values", "_law_kept", "_law_marked", "_law_low", "_law_numbers", "_law_due", "_law_again", "_law_key"]) zp (cd_5 p6 (a_0 2)) rfl (by kernel_rfl) rfl (fun C s0 H0 fp pn=>⟨(gcM (i:=15)),s_5,(a_0 15)⟩)) (a_1 (a_0 11) (a_1 (a_5 w_9 (a_5 b_1 (a_0 11) (c_6 c_8 rfl g9 PySem.boot_len (a_1 (a_0 12) a_3))) a_4) a_3))))) (a_0 13) (b_8 _)))))))))))))))))))))))))
abbrev bc_6:Stmt:=top 88
end
theorem dv_0{l:PySem.W.OpenLaw}{w:World}{K:Frag}{h:Heap}{mg:Str→Option Value}{fa:Addr}(X:K.In h)(G:h.Ns mainGlobals mg)(hfa:mg "law" =some (.ref fa))
  {j1:Addr}
  {l6:Addr}
  {c8:Addr}
  {g7:Addr}
  {j0:Addr}
  {i9:Addr}
  {j9:Addr}
  {f65:Addr} {ck9 cj7:Option Addr} {cl0:Array (Option Value)} {cl1 ck4 ck5 ck0 cj0 ck2:Value}
  {ap4:Tok}
  {cf2:Tok}
  {ag7:Tok}
  {as1:Tok}
  {cd2:Tok}
  {at2:Tok}
  {ah7:Tok}
  {j8:Addr}
  {l0:Addr}
  {h8:Addr}
  {i8:Addr}
  {k9:Addr}
  {i7:Addr}
  {j3:Addr}
  {ab2:Addr}
  {x8:Addr}
  {ae0 bh6 bh4:Addr} {bv0 bx6:Str} {bu4 bq6:List Value} {cd9:List Str} {ca9:Bool} {bp7:Option Bool} {ce0 cg0 bi8 bi2 bt0 cb4:Option Addr} {by2 cf1 ce3 bw5 cd7:Option Value} {cc5 ce1 cb9 bx8 cc9 cd6 au0 bx9:Value} {am5 ai0:Array DictEntry} {ca8 bn2:Nat} {by5 bj5 bn5 bl9:Array (Option Value)} {aq7:ClassData}
  {ad9 bh3 bh5:Addr} {bz7 ce5:Str} {ce2 bj7:List Value} {cb2:List Str} {bx4:Bool} {bq3:Option Bool} {by7 cb0 bl1 br8 bo7 bz3:Option Addr} {bw9 bw8 cf0 cd3 bx1:Option Value} {bw6 ce8 cd8 ca0 bu9 ca5 av9 cb7:Value} {an9 aj9:Array DictEntry} {cc0 bq1:Nat} {cc4 bp3 bk3 bq5:Array (Option Value)} {ar4:ClassData}
  {y1 aq4 aq5:Addr} {be0 bb2:Str} {bf6 aw1:List Value} {ba1:List Str} {bg7:Bool} {au6:Option Bool} {az9 bb6 at4 aw5 aw7 ax4:Option Addr} {bf0 az8 bb8 ax9 ay8:Option Value} {az7 bg6 ba3 bf1 az4 ay3 ao5 be3:Value} {ag3 ae1:Array DictEntry} {bb7 au1:Nat} {ay6 au8 au4 av1:Array (Option Value)} {ak4:ClassData}
  {aa9 av4 aw6:Addr} {br4 bi0:Str} {bo5 bb0:List Value} {bj1:List Str} {bp2:Bool} {bc0:Option Bool} {bp8 bt7 bc7 bc3 ba4 bs2:Option Addr} {bi1 bi7 br6 bl5 bm8:Option Value} {bp0 bs1 bh9 br0 bl0 bj8 ar3 bl2:Value} {ai9 af9:Array DictEntry} {bm3 be6:Nat} {bl3 ay4 ax5 bb4:Array (Option Value)} {ao4:ClassData}
  {aw3 av5:Addr} {bl8 bm1:Str} {bm9 bg9:List Value} {bs8:List Str} {br3:Bool} {bc9:Option Bool} {bj2 bt1 be9 ba5:Option Addr} {bj3 bj6 br9 bm6 bo8:Option Value} {bj4 bi4 bn6:Value} {ak2 ag2:Array DictEntry} {bm4 bg0:Nat} {bt3 az1 ax7:Array (Option Value)} {ao6:ClassData}
  {bh2 bh1:Addr} {cd0 by8:Str} {cf9 bq9:List Value} {cb6:List Str} {cc6:Bool} {br5:Option Bool} {bu7 cb3 bt8 bo2:Option Addr} {cc2 cc8 ce9 by9 bz8:Option Value} {cg4 cd4 cf3:Value} {an5 ai6:Array DictEntry} {bz9 bo0:Nat} {ca3 bk2 bk8:Array (Option Value)} {ar2:ClassData}
  {aq2 ar5:Addr} {bg2 ay9:Str} {bc4 au3:List Value} {bg5:List Str} {bc6:Bool} {aw8:Option Bool} {bd5 be8 ax0 au5:Option Addr} {ay7 be4 ba7 bb1 bd3:Option Value} {az2 bd9 ay0:Value} {ag1 ad1:Array DictEntry} {bb5 aw0:Nat} {bf5 av2 at8:Array (Option Value)} {ak3:ClassData}
  (n9:nsIn K mainGlobals "Table" =some (some (.ref j1)))
  (bz2:plainGet K j1 Str.empty=true)
  (bw3:hasDictIn K j1=true)
  (ca6:plainOver K j1=true)
  (cg8:findIn K (.ref j1) "__setattr__" =some (some (.builtin "object.__setattr__")))
  (bw7:makesIn K j1=true)
  (bx0:keepIn K (.ref j1)=true)
  (ai5:findIn K (.ref j1) "by_salt" =some none)
  (ap6:findIn K (.ref j1) "kind" =some none)
  (ap8:findIn K (.ref j1) "part" =some none)
  (aj5:findIn K (.ref j1) "modulus" =some none)
  (al5:findIn K (.ref j1) "listed" =some none)
  (y6:nsIn K mainGlobals "Kept" =some (some (.ref l6)))
  (ch9:plainGet K l6 Str.empty=true)
  (ci1:hasDictIn K l6=true)
  (ch5:plainOver K l6=true)
  (ci0:findIn K (.ref l6) "__setattr__" =some (some (.builtin "object.__setattr__")))
  (cg9:makesIn K l6=true)
  (ci2:keepIn K (.ref l6)=true)
  (ah9:findIn K (.ref l6) "how_many" =some none)
  (aq0:findIn K (.ref l6) "width" =some none)
  (ah3:findIn K (.ref l6) "own_table" =some none)
  (j7:nsIn K mainGlobals "Marked" =some (some (.ref c8)))
  (aq1:plainGet K c8 Str.empty=true)
  (ar0:hasDictIn K c8=true)
  (bs4:plainOver K c8=true)
  (bi6:findIn K (.ref c8) "__setattr__" =some (some (.builtin "object.__setattr__")))
  (bo1:makesIn K c8=true)
  (bq2:keepIn K (.ref c8)=true)
  (af7:findIn K (.ref c8) "how_many" =some none)
  (al6:findIn K (.ref c8) "width" =some none)
  (af3:findIn K (.ref c8) "own_table" =some none)
  (l4:nsIn K mainGlobals "MarkedAgain" =some (some (.ref g7)))
  (an0:plainGet K g7 Str.empty=true)
  (ap2:hasDictIn K g7=true)
  (al8:plainOver K g7=true)
  (ao1:findIn K (.ref g7) "__setattr__" =some (some (.builtin "object.__setattr__")))
  (ao2:makesIn K g7=true)
  (am1:keepIn K (.ref g7)=true)
  (ab1:findIn K (.ref g7) "how_many" =some none)
  (ad3:findIn K (.ref g7) "width" =some none)
  (z6:findIn K (.ref g7) "own_table" =some none)
  (y2:nsIn K mainGlobals "PeeledAgain" =some (some (.ref j0)))
  (ao9:plainGet K j0 Str.empty=true)
  (ao8:hasDictIn K j0=true)
  (am8:plainOver K j0=true)
  (am3:findIn K (.ref j0) "__setattr__" =some (some (.builtin "object.__setattr__")))
  (cb1:makesIn K j0=true)
  (cf5:keepIn K (.ref j0)=true)
  (ab4:findIn K (.ref j0) "how_many" =some none)
  (aa1:findIn K (.ref j0) "own_table" =some none)
  (v9:nsIn K mainGlobals "OrderedAgain" =some (some (.ref i9)))
  (al0:plainGet K i9 Str.empty=true)
  (ak9:hasDictIn K i9=true)
  (al2:plainOver K i9=true)
  (al1:findIn K (.ref i9) "__setattr__" =some (some (.builtin "object.__setattr__")))
  (bu2:makesIn K i9=true)
  (bu1:keepIn K (.ref i9)=true)
  (z7:findIn K (.ref i9) "how_many" =some none)
  (y4:findIn K (.ref i9) "own_table" =some none)
  (x6:nsIn K mainGlobals "KeptAgain" =some (some (.ref j9)))
  (ar8:plainGet K j9 Str.empty=true)
  (as6:hasDictIn K j9=true)
  (as9:plainOver K j9=true)
  (as3:findIn K (.ref j9) "__setattr__" =some (some (.builtin "object.__setattr__")))
  (ch2:makesIn K j9=true)
  (ch8:keepIn K (.ref j9)=true)
  (ac6:findIn K (.ref j9) "how_many" =some none)
  (af4:findIn K (.ref j9) "width" =some none)
  (ab6:findIn K (.ref j9) "own_table" =some none)
  (w1:FnTop K "_law_mix" (top 77))
  (w2:FnTop K "_law_draws" (top 78))
  (w3:FnTop K "_law_drawn_key" (top 79))
  (w4:FnTop K "_law_drawn_keys" (top 80))
  (w5:FnTop K "two_to" (top 12))
  (w6:FnTop K "is_key_text" (top 27))
  (w7:FnTop K "is_key" (top 28))
  (w8:FnTop K "look_each_key" (top 33))
  (w9:FnTop K "look_unlike" (top 34))
  (w10:FnTop K "look_keys" (top 35))
  (w11:FnTop K "is_below" (top 11))
  (w12:FnTop K "look_values" (top 56))
  (w13:FnTop K "part_size" (top 45))
  (w14:FnTop K "worth" (top 29))
  (w15:FnTop K "stamp" (top 30))
  (w16:FnTop K "mixed" (top 31))
  (w17:FnTop K "places_of" (top 46))
  (w18:FnTop K "edges_of" (top 47))
  (w19:FnTop K "standing_at" (top 41))
  (w20:FnTop K "take_away" (top 42))
  (w21:FnTop K "peeled" (top 43))
  (w22:FnTop K "fate" (top 48))
  (w23:FnTop K "succeeds" (top 49))
  (w24:FnTop K "first_try" (top 50))
  (w25:FnTop K "remainder" (top 37))
  (w26:FnTop K "summed" (top 38))
  (w27:FnTop K "filled" (top 39))
  (w28:FnMet K j1 "__init__" "Table.__init__" (inC 52 0))
  (w29:FnTop K "table_for" (top 53))
  (w30:FnMet K l6 "__init__" "Kept.__init__" (inC 57 0))
  (w31:FnTop K "mark" (top 32))
  (w32:FnMet K c8 "__init__" "Marked.__init__" (inC 58 0))
  (w33:FnTop K "_law_made" (top 86))
  (w34:FnTop K "_law_part" (top 83))
  (w35:FnTop K "_law_stamp" (top 81))
  (w36:FnTop K "_law_mixed" (top 82))
  (w37:FnTop K "_law_places" (top 84))
  (w38:FnTop K "_law_tells" (top 85))
  (w39:FnMet K j1 "salt" "Table.salt" (inC 52 1))
  (w40:FnMet K c8 "salt" "Marked.salt" (inC 58 2))
  (w41:FnMet K j1 "table" "Table.table" (inC 52 2))
  (w42:FnMet K c8 "table" "Marked.table" (inC 58 3))
  (w43:FnMet K j1 "places" "Table.places" (inC 52 3))
  (w44:FnMet K j1 "total" "Table.total" (inC 52 4))
  (w45:FnMet K c8 "knows" "Marked.knows" (inC 58 5))
  (w46:FnMet K c8 "places" "Marked.places" (inC 58 4))
  (w47:FnMet K l6 "value" "Kept.value" (inC 57 5))
  (w48:FnMet K l6 "table" "Kept.table" (inC 57 3))
  (w49:FnTop K "_law_range" (top 87))
  (w50:FnMet K g7 "knows" "Marked.knows" (inC 58 5))
  (w51:FnTop K "mistaken" (top 59))
  (w52:FnTop K "is_multiple" (top 15))
  (w53:FnTop K "look_bits" (top 16))
  (w54:FnTop K "number_read" (top 17))
  (w55:FnTop K "read_bits" (top 18))
  (w56:FnTop K "numbers_again" (top 73))
  (w57:FnMet K g7 "__init__" "MarkedAgain.__init__" (inC 70 0))
  (w58:FnTop K "house_of" (top 74))
  (w59:FnTop K "made_again" (top 75))
  (w60:FnTop K "number_written" (top 13))
  (w61:FnTop K "written" (top 14))
  (w62:FnMet K c8 "many" "Marked.many" (inC 58 1))
  (w63:FnTop K "told_by" (top 71))
  (w64:FnTop K "house_told" (top 72))
  (a65:nsIn K mainGlobals "law" =some (some (.ref f65))) (l65:K.lookup f65=some ⟨cl1,ck9, .func (fnOf "law" "law" (g_2 bc_6) (e_1 bc_6) (b_2 bc_6) .none ck4 ck5 ck0 cj7 cj0 ck2),cl0⟩) (c65:codeIn K cj0 "law" =true) (k65:keepIn K (.ref f65)=true)
  (ci7:nsIn K mainGlobals "list" =some none)
  (ch7:nsIn K mainGlobals "range" =some none)
  (ck1:nsIn K mainGlobals "len" =some none)
  (cj9:nsIn K mainGlobals "all" =some none)
  (as0:nsIn K mainGlobals "isinstance" =some none)
  (ci6:nsIn K mainGlobals "bool" =some none)
  (cj8:nsIn K mainGlobals "int" =some none)
  (cj5:nsIn K mainGlobals "str" =some none)
  (at9:nsIn K mainGlobals "enumerate" =some none)
  (ch3:nsIn K mainGlobals "tuple" =some none)
  (cj6:nsIn K mainGlobals "min" =some none)
  (ck3:nsIn K mainGlobals "sum" =some none)
  (bg1:nsIn K mainGlobals "reversed" =some none)
  (ck8:nsIn K mainGlobals "max" =some none)
  (bf2:kitOne K (.type "NoneType") (.type "bool")=some false)
  (bk9:kitOne K (.type "bool") (.type "bool")=some true)
  (bb3:kitOne K (.type "int") (.type "bool")=some false)
  (ba6:kitOne K (.type "str") (.type "bool")=some false)
  (ba0:kitOne K (.type "list") (.type "bool")=some false)
  (ax1:kitOne K (.type "tuple") (.type "bool")=some false)
  (bt9:kitOne K (.type "NoneType") (.type "int")=some false)
  (bv7:kitOne K (.type "bool") (.type "int")=some true)
  (bu0:kitOne K (.type "int") (.type "int")=some true)
  (bm0:kitOne K (.type "str") (.type "int")=some false)
  (bl6:kitOne K (.type "list") (.type "int")=some false)
  (bn4:kitOne K (.type "tuple") (.type "int")=some false)
  (bs5:kitOne K (.type "NoneType") (.type "str")=some false)
  (bv6:kitOne K (.type "bool") (.type "str")=some false)
  (bo6:kitOne K (.type "int") (.type "str")=some false)
  (bq0:kitOne K (.type "str") (.type "str")=some true)
  (br1:kitOne K (.type "list") (.type "str")=some false)
  (bo4:kitOne K (.type "tuple") (.type "str")=some false)
  (as4:nsIn K mainGlobals "MOST_SIGNS" =some (some (.int 11 ap4)))
  (ch1:nsIn K mainGlobals "SIGNS" =some (some (.str "abcdefghijklmnopqrstuvwxyz0123456789-_ " cf2)))
  (ah1:nsIn K mainGlobals "GREATEST_NUMBER" =some (some (.int 999999999999999999 ag7)))
  (av3:nsIn K mainGlobals "MOST_KEYS" =some (some (.int 200 as1)))
  (ch4:nsIn K mainGlobals "PRIME" =some (some (.int 2305843009213693951 cd2)))
  (av8:nsIn K mainGlobals "MARK_SALT" =some (some (.int 3 at2)))
  (ai4:nsIn K mainGlobals "MOST_LOOKED_AT" =some (some (.int 2000 ah7)))
  (an8:nsIn K mainGlobals "NoKey" =some (some (.ref j8)))
  (an1:nsIn K mainGlobals "Twice" =some (some (.ref l0)))
  (af8:nsIn K mainGlobals "NoValue" =some (some (.ref h8)))
  (aj0:nsIn K mainGlobals "NoBits" =some (some (.ref i8)))
  (ah8:nsIn K mainGlobals "NoKeys" =some (some (.ref k9)))
  (ao7:nsIn K mainGlobals "NoTry" =some (some (.ref i7)))
  (ag5:nsIn K mainGlobals "NoRange" =some (some (.ref j3)))
  (bh8:nsIn K mainGlobals "Peeled" =some (some (.ref ab2)))
  (be2:nsIn K mainGlobals "Ordered" =some (some (.ref x8)))
  (bm5:findIn K (.ref c8) "__class__" =some (some (.builtin "object.__class__")))
  (br7:mroIn K c8 (.type "object")=some true)
  (ai7:kitOne K (.ref c8) (.ref ab2)=some false)
  (ah5:kitOne K (.ref c8) (.ref x8)=some false)
  (ap3:kitOne K (.ref c8) (.ref l6)=some false)
  (aj1:kitOne K (.ref c8) (.ref c8)=some true)
  (at5:K.lookup j8=some (excClassObj bv0 bx6 j8 bh6 bu4 (.ref bh4::bmVE) true cd9 bq6 ca9 bp7 ce0 by2 cf1 ce3 bw5 cd7 "ValueError.__new__"))
  (cg2:K.lookup bh6=some ⟨cc5,cg0, .dict am5 ca8,by5⟩)
  (ck6:findIn K (.ref j8) "__init__" =some (some (.ref ae0)))
  (bw1:e_8 am5=true)
  (bv8:nsFind am5 "__init__" =some (.ref ae0))
  (ca4:K.lookup bh4=some ⟨ce1,bi8, .cls aq7,bj5⟩)
  (ce4:K.lookup aq7.ns=some ⟨cb9,bi2, .dict ai0 bn2,bn5⟩)
  (ce6:e_8 ai0=true)
  (bu8:nsFind ai0 "__init__" =none)
  (cg7:findIn K (.ref j8) "__setattr__" =some (some (.builtin "object.__setattr__")))
  (cd1:findIn K (.ref j8) "at" =some none)
  (bn9:keepIn K (.ref j8)=true)
  (aq3:K.lookup ae0=some ⟨.type "function",bt0, .func (fnOf "__init__" "NoKey.__init__" (g_2 o_1) (e_1 o_1) (b_2 o_1) .none bx8 cc9 cd6 cb4 au0 bx9),bl9⟩)
  (bh7:codeIn K au0 "NoKey.__init__" =true)
  (bt2:keepIn K (.ref ae0)=true)
  (bv1:findIn K (.ref j8) "__getattribute__" =some (some (.builtin "BaseException.__getattribute__")))
  (cg1:findIn K (.ref j8) "__getattr__" =some none)
  (bx7:mroIn K j8 (.type "BaseException")=some true)
  (bz5:hasDictIn K j8=true)
  (bu6:findIn K (.ref j8) "__class__" =some (some (.builtin "object.__class__")))
  (cb5:mroIn K j8 (.type "object")=some true)
  (ao3:exmOne K (.ref j8) (.ref i7)=some false)
  (au2:K.lookup l0=some (excClassObj bz7 ce5 l0 bh3 ce2 (.ref bh5::bmVE) true cb2 bj7 bx4 bq3 by7 bw9 bw8 cf0 cd3 bx1 "ValueError.__new__"))
  (by0:K.lookup bh3=some ⟨bw6,cb0, .dict an9 cc0,cc4⟩)
  (ck7:findIn K (.ref l0) "__init__" =some (some (.ref ad9)))
  (cf8:e_8 an9=true)
  (bw0:nsFind an9 "__init__" =some (.ref ad9))
  (bv9:K.lookup bh5=some ⟨ce8,bl1, .cls ar4,bp3⟩)
  (by3:K.lookup ar4.ns=some ⟨cd8,br8, .dict aj9 bq1,bk3⟩)
  (ca7:e_8 aj9=true)
  (bu5:nsFind aj9 "__init__" =none)
  (bw2:findIn K (.ref l0) "__setattr__" =some (some (.builtin "object.__setattr__")))
  (bz4:findIn K (.ref l0) "at" =some none)
  (bl4:keepIn K (.ref l0)=true)
  (ar6:K.lookup ad9=some ⟨.type "function",bo7, .func (fnOf "__init__" "Twice.__init__" (g_2 o_0) (e_1 o_0) (b_2 o_0) .none ca0 bu9 ca5 bz3 av9 cb7),bq5⟩)
  (bn7:codeIn K av9 "Twice.__init__" =true)
  (bp6:keepIn K (.ref ad9)=true)
  (bv2:findIn K (.ref l0) "__getattribute__" =some (some (.builtin "BaseException.__getattribute__")))
  (bx5:findIn K (.ref l0) "__getattr__" =some none)
  (cf6:mroIn K l0 (.type "BaseException")=some true)
  (bv4:hasDictIn K l0=true)
  (cd5:findIn K (.ref l0) "__class__" =some (some (.builtin "object.__class__")))
  (ce7:mroIn K l0 (.type "object")=some true)
  (am6:exmOne K (.ref l0) (.ref i7)=some false)
  (am4:K.lookup h8=some (excClassObj be0 bb2 h8 aq4 bf6 (.ref aq5::bmVE) true ba1 aw1 bg7 au6 az9 bf0 az8 bb8 ax9 ay8 "ValueError.__new__"))
  (ax2:K.lookup aq4=some ⟨az7,bb6, .dict ag3 bb7,ay6⟩)
  (ci5:findIn K (.ref h8) "__init__" =some (some (.ref y1)))
  (be5:e_8 ag3=true)
  (bc1:nsFind ag3 "__init__" =some (.ref y1))
  (ba2:K.lookup aq5=some ⟨bg6,at4, .cls ak4,au8⟩)
  (az5:K.lookup ak4.ns=some ⟨ba3,aw5, .dict ae1 au1,au4⟩)
  (be1:e_8 ae1=true)
  (bf3:nsFind ae1 "__init__" =none)
  (bd2:findIn K (.ref h8) "__setattr__" =some (some (.builtin "object.__setattr__")))
  (bc5:findIn K (.ref h8) "at" =some none)
  (au9:keepIn K (.ref h8)=true)
  (ak5:K.lookup y1=some ⟨.type "function",aw7, .func (fnOf "__init__" "NoValue.__init__" (g_2 k_0) (e_1 k_0) (b_2 k_0) .none bf1 az4 ay3 ax4 ao5 be3),av1⟩)
  (av6:codeIn K ao5 "NoValue.__init__" =true)
  (av7:keepIn K (.ref y1)=true)
  (az3:findIn K (.ref h8) "__getattribute__" =some (some (.builtin "BaseException.__getattribute__")))
  (bf8:findIn K (.ref h8) "__getattr__" =some none)
  (bd8:mroIn K h8 (.type "BaseException")=some true)
  (bd7:hasDictIn K h8=true)
  (ax8:findIn K (.ref h8) "__class__" =some (some (.builtin "object.__class__")))
  (az6:mroIn K h8 (.type "object")=some true)
  (aj3:exmOne K (.ref h8) (.ref i7)=some false)
  (aq6:K.lookup i8=some (excClassObj br4 bi0 i8 av4 bo5 (.ref aw6::bmVE) true bj1 bb0 bp2 bc0 bp8 bi1 bi7 br6 bl5 bm8 "ValueError.__new__"))
  (bt4:K.lookup av4=some ⟨bp0,bt7, .dict ai9 bm3,bl3⟩)
  (cj2:findIn K (.ref i8) "__init__" =some (some (.ref aa9)))
  (bm2:e_8 ai9=true)
  (bl7:nsFind ai9 "__init__" =some (.ref aa9))
  (bk0:K.lookup aw6=some ⟨bs1,bc7, .cls ao4,ay4⟩)
  (bp9:K.lookup ao4.ns=some ⟨bh9,bc3, .dict af9 be6,ax5⟩)
  (bp5:e_8 af9=true)
  (bk7:nsFind af9 "__init__" =none)
  (bp4:findIn K (.ref i8) "__setattr__" =some (some (.builtin "object.__setattr__")))
  (bn8:findIn K (.ref i8) "at" =some none)
  (az0:keepIn K (.ref i8)=true)
  (ap0:K.lookup aa9=some ⟨.type "function",ba4, .func (fnOf "__init__" "NoBits.__init__" (g_2 m_3) (e_1 m_3) (b_2 m_3) .none br0 bl0 bj8 bs2 ar3 bl2),bb4⟩)
  (bd6:codeIn K ar3 "NoBits.__init__" =true)
  (bb9:keepIn K (.ref aa9)=true)
  (bo9:findIn K (.ref i8) "__getattribute__" =some (some (.builtin "BaseException.__getattribute__")))
  (bt6:findIn K (.ref i8) "__getattr__" =some none)
  (bo3:mroIn K i8 (.type "BaseException")=some true)
  (br2:hasDictIn K i8=true)
  (bs9:findIn K (.ref i8) "__class__" =some (some (.builtin "object.__class__")))
  (bq7:mroIn K i8 (.type "object")=some true)
  (al4:exmOne K (.ref i8) (.ref i7)=some false)
  (bk6:K.lookup k9=some (excClassObj bl8 bm1 k9 aw3 bm9 (.ref av5::bmVE) true bs8 bg9 br3 bc9 bj2 bj3 bj6 br9 bm6 bo8 "ValueError.__new__"))
  (bs6:K.lookup aw3=some ⟨bj4,bt1, .dict ak2 bm4,bt3⟩)
  (bi3:e_8 ak2=true)
  (bk1:nsFind ak2 "__init__" =none)
  (bj9:K.lookup av5=some ⟨bi4,be9, .cls ao6,az1⟩)
  (bi5:K.lookup ao6.ns=some ⟨bn6,ba5, .dict ag2 bg0,ax7⟩)
  (bs7:e_8 ag2=true)
  (bn0:nsFind ag2 "__init__" =none)
  (bc8:keepIn K (.ref k9)=true)
  (bs3:findIn K (.ref k9) "__getattribute__" =some (some (.builtin "BaseException.__getattribute__")))
  (bk5:findIn K (.ref k9) "__getattr__" =some none)
  (bk4:mroIn K k9 (.type "BaseException")=some true)
  (bt5:hasDictIn K k9=true)
  (bn3:findIn K (.ref k9) "__class__" =some (some (.builtin "object.__class__")))
  (bq4:mroIn K k9 (.type "object")=some true)
  (ak7:exmOne K (.ref k9) (.ref i7)=some false)
  (cg3:K.lookup i7=some (excClassObj cd0 by8 i7 bh2 cf9 (.ref bh1::bmVE) true cb6 bq9 cc6 br5 bu7 cc2 cc8 ce9 by9 bz8 "ValueError.__new__"))
  (by6:K.lookup bh2=some ⟨cg4,cb3, .dict an5 bz9,ca3⟩)
  (cf4:e_8 an5=true)
  (ca1:nsFind an5 "__init__" =none)
  (cc3:K.lookup bh1=some ⟨cd4,bt8, .cls ar2,bk2⟩)
  (bv3:K.lookup ar2.ns=some ⟨cf3,bo2, .dict ai6 bo0,bk8⟩)
  (bx2:e_8 ai6=true)
  (bz0:nsFind ai6 "__init__" =none)
  (bi9:keepIn K (.ref i7)=true)
  (by1:findIn K (.ref i7) "__getattribute__" =some (some (.builtin "BaseException.__getattribute__")))
  (cb8:findIn K (.ref i7) "__getattr__" =some none)
  (cf7:mroIn K i7 (.type "BaseException")=some true)
  (bx3:hasDictIn K i7=true)
  (bw4:findIn K (.ref i7) "__class__" =some (some (.builtin "object.__class__")))
  (cc1:mroIn K i7 (.type "object")=some true)
  (al9:exmOne K (.ref i7) (.ref i7)=some true)
  (bh0:K.lookup j3=some (excClassObj bg2 ay9 j3 aq2 bc4 (.ref ar5::bmVE) true bg5 au3 bc6 aw8 bd5 ay7 be4 ba7 bb1 bd3 "ValueError.__new__"))
  (bc2:K.lookup aq2=some ⟨az2,be8, .dict ag1 bb5,bf5⟩)
  (ba9:e_8 ag1=true)
  (ay1:nsFind ag1 "__init__" =none)
  (ax6:K.lookup ar5=some ⟨bd9,ax0, .cls ak3,av2⟩)
  (bd0:K.lookup ak3.ns=some ⟨ay0,au5, .dict ad1 aw0,at8⟩)
  (bf4:e_8 ad1=true)
  (bd4:nsFind ad1 "__init__" =none)
  (at6:keepIn K (.ref j3)=true)
  (ay2:findIn K (.ref j3) "__getattribute__" =some (some (.builtin "BaseException.__getattribute__")))
  (bd1:findIn K (.ref j3) "__getattr__" =some none)
  (bf9:mroIn K j3 (.type "BaseException")=some true)
  (bg8:hasDictIn K j3=true)
  (ay5:findIn K (.ref j3) "__class__" =some (some (.builtin "object.__class__")))
  (be7:mroIn K j3 (.type "object")=some true)
  (aj4:exmOne K (.ref j3) (.ref i7)=some false)
  (ae2:specialIn K (.builtin "object.__class__") "__get__" =some (some (.builtin "getset_descriptor.__get__")))
  (ac7:takesIn K (.builtin "object.__class__")=some true):
  ∃fd:FuncData,(∀(s:Shared) (v:Value),BindsTo s fd ⟨[v], []⟩ [("_law_script",v)])∧∀base:Heap,K.In base→base.Ns mainGlobals mg→FnOk l.prog w K mg base CX0 12 fa fd ["_law_script"] (ay_1 K):=by
 have ai1:=mg_of X G bh8;have ag4:=mg_of X G be2;have cg6:=mg_of X G n9;have o7:Cls K j1:=⟨bz2,bw3,ca6,cg8⟩;have al7:=mg_of X G y6;have ac8:Cls K l6:=⟨ch9,ci1,ch5,ci0⟩;have af0:=mg_of X G j7;have o6:Cls K c8:=⟨aq1,ar0,bs4,bi6⟩;have an2:=mg_of X G l4;have o9:Cls K g7:=⟨an0,ap2,al8,ao1⟩;have bv5:=mg_of X G y2;have ac4:Cls K j0:=⟨ao9,ao8,am8,am3⟩;have bu3:=mg_of X G v9;have aa7:Cls K i9:=⟨al0,ak9,al2,al1⟩;have ch0:=mg_of X G x6;have aa4:Cls K j9:=⟨ar8,as6,as9,as3⟩;have n8:OFld K ["Table"] "by_salt" :=(.one n9 o7 ai5 .nil);have x4:OFld K ["Table"] "kind" :=(.one n9 o7 ap6 .nil);have af1:OFld K ["Table"] "part" :=(.one n9 o7 ap8 .nil);have r9:OFld K ["Table"] "modulus" :=(.one n9 o7 aj5 .nil);have o8:OFld K ["Table"] "listed" :=(.one n9 o7 al5 .nil);have j5:OFld K ["Kept", "Marked", "PeeledAgain", "OrderedAgain", "KeptAgain", "MarkedAgain"] "how_many" :=(.one y6 ac8 ah9 (.one j7 o6 af7 (.one y2 ac4 ab4 (.one v9 aa7 z7 (.one x6 aa4 ac6 (.one l4 o9 ab1 .nil))))));have j6:OFld K ["Kept", "Marked", "KeptAgain", "MarkedAgain"] "width" :=(.one y6 ac8 aq0 (.one j7 o6 al6 (.one x6 aa4 af4 (.one l4 o9 ad3 .nil))));have c6:OFld K ["Kept", "Marked", "PeeledAgain", "OrderedAgain", "KeptAgain", "MarkedAgain"] "own_table" :=(.one y6 ac8 ah3 (.one j7 o6 af3 (.one y2 ac4 aa1 (.one v9 aa7 y4 (.one x6 aa4 ab6 (.one l4 o9 z6 .nil))))));have bz6:=mg_of X G an8;have cg5:=mg_of X G an1;have ax3:=mg_of X G af8;have bp1:=mg_of X G aj0;have bs0:=mg_of X G ah8;have ah4:=mg_of X G ao7;have bg3:=mg_of X G ag5;have ar1:=av_9 at5 cg7;have bm7:XMk K j8 ae0:=bo_0 at5 cg2 bw1 bv8 ca4 ce4 ce6 bu8;have cj1:XInst K j8:=⟨bv1,cg1,bx7,bz5,bu6,ae2,ac7,cb5⟩;have au7:=an_9 (x:= "__init__") (qual:= "NoKey.__init__") (st:=o_1) aq3 bh7 bt2;have by4:=Fun.binds2 (ps:= ["self", "at"]) au7 rfl fun _ _ _ _ _ _ _ _=>rfl;have aq8:=av_9 au2 bw2;have bn1:XMk K l0 ad9:=bo_0 au2 by0 cf8 bw0 bv9 by3 ca7 bu5;have cj4:XInst K l0:=⟨bv2,bx5,cf6,bv4,cd5,ae2,ac7,ce7⟩;have aw2:=an_9 (x:= "__init__") (qual:= "Twice.__init__") (st:=o_0) ar6 bn7 bp6;have bz1:=Fun.binds2 (ps:= ["self", "at"]) aw2 rfl fun _ _ _ _ _ _ _ _=>rfl;have ak6:=av_9 am4 bd2;have av0:XMk K h8 y1:=bo_0 am4 ax2 be5 bc1 ba2 az5 be1 bf3;have ci3:XInst K h8:=⟨az3,bf8,bd8,bd7,ax8,ae2,ac7,az6⟩;have an3:=an_9 (x:= "__init__") (qual:= "NoValue.__init__") (st:=k_0) ak5 av6 av7;have bf7:=Fun.binds2 (ps:= ["self", "at"]) an3 rfl fun _ _ _ _ _ _ _ _=>rfl;have am2:=av_9 aq6 bp4;have bg4:XMk K i8 aa9:=bo_0 aq6 bt4 bm2 bl7 bk0 bp9 bp5 bk7;have ci8:XInst K i8:=⟨bo9,bt6,bo3,br2,bs9,ae2,ac7,bq7⟩;have aq9:=an_9 (x:= "__init__") (qual:= "NoBits.__init__") (st:=m_3) ap0 bd6 bb9;have bq8:=Fun.binds2 (ps:= ["self", "at"]) aq9 rfl fun _ _ _ _ _ _ _ _=>rfl;have ba8:XMk0 K k9:=bo_1 bk6 bs6 bi3 bk1 bj9 bi5 bs7 bn0;have ci9:XInst K k9:=⟨bs3,bk5,bk4,bt5,bn3,ae2,ac7,bq4⟩;have ak0:XC0 K mg "NoKeys" k9:=⟨ah8,bs0,bc8,ba8⟩;have bj0:XMk0 K i7:=bo_1 cg3 by6 cf4 ca1 cc3 bv3 bx2 bz0;have cj3:XInst K i7:=⟨by1,cb8,cf7,bx3,bw4,ae2,ac7,cc1⟩;have ao0:XC0 K mg "NoTry" i7:=⟨ao7,ah4,bi9,bj0⟩;have aw4:XMk0 K j3:=bo_1 bh0 bc2 ba9 ay1 ax6 bd0 bf4 bd4;have ci4:XInst K j3:=⟨ay2,bd1,bf9,bg8,ay5,ae2,ac7,be7⟩;have af5:XC0 K mg "NoRange" j3:=⟨ag5,bg3,at6,aw4⟩;have an4:Catches K i7 [("NoBits",false),("NoKey",false),("NoKeys",false),("NoRange",false),("NoTry",true),("NoValue",false),("Twice",false)]:=(.one aj0 al4 (.one an8 ao3 (.one ah8 ak7 (.one ag5 aj4 (.one ao7 al9 (.one af8 aj3 (.one an1 am6 .nil)))))));have ab5:OInst K c8:=⟨aq1,ar0,bm5,ae2,ac7,br7⟩;have ai3:IsOneO K (.ref ab2) [("Marked",false)]:=(.one j7 ab5 ai7 .nil);have ag6:IsOneO K (.ref x8) [("Marked",false)]:=(.one j7 ab5 ah5 .nil);have as7:IsOneO K (.ref l6) [("Marked",false)]:=(.one j7 ab5 ap3 .nil);have aj7:IsOneO K (.ref c8) [("Marked",true)]:=(.one j7 ab5 aj1 .nil);have e:=hfa.symm.trans (mg_of X G a65);cases e;have o5:=mg_none_of X G ci7;have c9:=mg_none_of X G ch7;have g9:=mg_none_of X G ck1;have ca2:=mg_none_of X G cj9;have c7:=mg_none_of X G as0;have ab7:=mg_none_of X G ci6;have ah0:=mg_none_of X G cj8;have ah6:=mg_none_of X G cj5;have g8:=mg_none_of X G at9;have ae4:=mg_none_of X G ch3;have ag9:=mg_none_of X G cj6;have ar7:=mg_none_of X G ck3;have p6:=mg_none_of X G bg1;have cc7:=mg_none_of X G ck8;have r0:KitT K "bool" :=⟨bf2,bk9,bb3,ba6,ba0,ax1⟩;have x5:KitT K "int" :=⟨bt9,bv7,bu0,bm0,bl6,bn4⟩;have ae7:KitT K "str" :=⟨bs5,bv6,bo6,bq0,br1,bo4⟩;have ac1:=mg_of X G as4;have ae6:=mg_of X G ch1;have k7:=mg_of X G ah1;have ad7:=mg_of X G av3;have ah2:=mg_of X G ch4;have ad5:=mg_of X G av8;have u4:=mg_of X G ai4;obtain⟨f1,a1,d1,F1⟩:=w1;obtain⟨f2,a2,d2,F2⟩:=w2;obtain⟨f3,a3,d3,F3⟩:=w3;obtain⟨f4,a4,d4,F4⟩:=w4;obtain⟨f5,a5,d5,F5⟩:=w5;obtain⟨f6,a6,d6,F6⟩:=w6;obtain⟨f7,a7,d7,F7⟩:=w7;obtain⟨f8,a8,d8,F8⟩:=w8;obtain⟨f9,a9,d9,F9⟩:=w9;obtain⟨f10,a10,d10,F10⟩:=w10;obtain⟨f11,a11,d11,F11⟩:=w11;obtain⟨f12,a12,d12,F12⟩:=w12;obtain⟨f13,a13,d13,F13⟩:=w13;obtain⟨f14,a14,d14,F14⟩:=w14;obtain⟨f15,a15,d15,F15⟩:=w15;obtain⟨f16,a16,d16,F16⟩:=w16;obtain⟨f17,a17,d17,F17⟩:=w17;obtain⟨f18,a18,d18,F18⟩:=w18;obtain⟨f19,a19,d19,F19⟩:=w19;obtain⟨f20,a20,d20,F20⟩:=w20;obtain⟨f21,a21,d21,F21⟩:=w21;obtain⟨f22,a22,d22,F22⟩:=w22;obtain⟨f23,a23,d23,F23⟩:=w23;obtain⟨f24,a24,d24,F24⟩:=w24;obtain⟨f25,a25,d25,F25⟩:=w25;obtain⟨f26,a26,d26,F26⟩:=w26;obtain⟨f27,a27,d27,F27⟩:=w27;obtain⟨f28,a28,⟨d28,F28⟩,k28,i28⟩:=w28;obtain⟨f29,a29,d29,F29⟩:=w29;obtain⟨f30,a30,⟨d30,F30⟩,k30,i30⟩:=w30;obtain⟨f31,a31,d31,F31⟩:=w31;obtain⟨f32,a32,⟨d32,F32⟩,k32,i32⟩:=w32;obtain⟨f33,a33,d33,F33⟩:=w33;obtain⟨f34,a34,d34,F34⟩:=w34;obtain⟨f35,a35,d35,F35⟩:=w35;obtain⟨f36,a36,d36,F36⟩:=w36;obtain⟨f37,a37,d37,F37⟩:=w37;obtain⟨f38,a38,d38,F38⟩:=w38;obtain⟨f39,a39,⟨d39,F39⟩,k39,i39⟩:=w39;obtain⟨f40,a40,⟨d40,F40⟩,k40,i40⟩:=w40;obtain⟨f41,a41,⟨d41,F41⟩,k41,i41⟩:=w41;obtain⟨f42,a42,⟨d42,F42⟩,k42,i42⟩:=w42;obtain⟨f43,a43,⟨d43,F43⟩,k43,i43⟩:=w43;obtain⟨f44,a44,⟨d44,F44⟩,k44,i44⟩:=w44;obtain⟨f45,a45,⟨d45,F45⟩,k45,i45⟩:=w45;obtain⟨f46,a46,⟨d46,F46⟩,k46,i46⟩:=w46;obtain⟨f47,a47,⟨d47,F47⟩,k47,i47⟩:=w47;obtain⟨f48,a48,⟨d48,F48⟩,k48,i48⟩:=w48;obtain⟨f49,a49,d49,F49⟩:=w49;obtain⟨f50,a50,⟨d50,F50⟩,k50,i50⟩:=w50;obtain⟨f51,a51,d51,F51⟩:=w51;obtain⟨f52,a52,d52,F52⟩:=w52;obtain⟨f53,a53,d53,F53⟩:=w53;obtain⟨f54,a54,d54,F54⟩:=w54;obtain⟨f55,a55,d55,F55⟩:=w55;obtain⟨f56,a56,d56,F56⟩:=w56;obtain⟨f57,a57,⟨d57,F57⟩,k57,i57⟩:=w57;obtain⟨f58,a58,d58,F58⟩:=w58;obtain⟨f59,a59,d59,F59⟩:=w59;obtain⟨f60,a60,d60,F60⟩:=w60;obtain⟨f61,a61,d61,F61⟩:=w61;obtain⟨f62,a62,⟨d62,F62⟩,k62,i62⟩:=w62;obtain⟨f63,a63,d63,F63⟩:=w63;obtain⟨f64,a64,d64,F64⟩:=w64;have F65:=an_9 (st:=bc_6) l65 c65 k65;refine⟨fnOf "law" "law" (g_2 bc_6) (e_1 bc_6) (b_2 bc_6) .none ck4 ck5 ck0 cj7 cj0 ck2,fun s v=> .of_eq rfl,fun base _ _=> ?_⟩;have ae9:XC l.prog w K mg base "NoKey" "at" j8:=⟨an8,bz6,bn9,ar1,⟨_,_,_,_,bm7,aq3,rfl,be_4 au7 ar1 cd1,by4⟩⟩;have as2:XC l.prog w K mg base "Twice" "at" l0:=⟨an1,cg5,bl4,aq8,⟨_,_,_,_,bn1,ar6,rfl,be_2 aw2 aq8 bz4,bz1⟩⟩;have ae3:XC l.prog w K mg base "NoValue" "at" h8:=⟨af8,ax3,au9,ak6,⟨_,_,_,_,av0,ak5,rfl,au_5 an3 ak6 bc5,bf7⟩⟩;have y0:XC l.prog w K mg base "NoBits" "at" i8:=⟨aj0,bp1,az0,am2,⟨_,_,_,_,bg4,ap0,rfl,bb_5 aq9 am2 bn8,bq8⟩⟩;have ae8:bj_8 l.prog w K mg base:=c_3 F1 (mg_of X G a1) (Fun.binds2 F1) (cg_8 F1);have ad6:at_2 l.prog w K mg base:=c_3 F2 (mg_of X G a2) (Fun.binds2 F2) (br_2 F2 ae8 o5 c9 g9);have v6:ab_8 l.prog w K mg base:=c_3 F3 (mg_of X G a3) (Fun.binds3 F3) (aq_2 F3 c9);have u9:z_3 l.prog w K mg base:=c_3 F4 (mg_of X G a4) (Fun.binds3 F4) (an_5 F4 v6 c9);have l5:z_4 l.prog w K mg base:=c_3 F5 (mg_of X G a5) (Fun.binds1 F5) (cs_1 F5 c9);have y9:ag_7 l.prog w K mg base:=c_3 F6 (mg_of X G a6) (Fun.binds1 F6) (bb_6 F6 g9 ca2 ac1 ae6);have ab0:ba_7 l.prog w K mg base:=c_3 F7 (mg_of X G a7) (Fun.binds1 F7) (cs_2 F7 y9 c7 ab7 ah0 ah6 r0 x5 ae7 k7);have l8:u_5 l.prog w K mg base:=c_3 F8 (mg_of X G a8) (Fun.binds1 F8) (aq_3 F8 ab0 g8 ae9);have aa0:ag_8 l.prog w K mg base:=c_3 F9 (mg_of X G a9) (Fun.binds1 F9) (bb_7 F9 g8 as2);have m8:x_5 l.prog w K mg base:=c_3 F10 (mg_of X G a10) (Fun.binds1 F10) (br_3 F10 l8 aa0 g9 ak0 ad7);have k8:w_5 l.prog w K mg base:=c_3 F11 (mg_of X G a11) (Fun.binds2 F11) (ca_7 F11 c7 ab7 r0);have z8:ag_9 l.prog w K mg base:=c_3 F12 (mg_of X G a12) (Fun.binds3 F12) (bb_8 F12 k8 g8 g9 ae3);have j4:u_0 l.prog w K mg base:=c_3 F13 (mg_of X G a13) (Fun.binds2 F13) (br_4 F13);have as5:cl_9 l.prog w K mg base:=c_3 F14 (mg_of X G a14) (Fun.binds1 F14) (de_1 F14 ae6);have af2:bq_9 l.prog w K mg base:=c_3 F15 (mg_of X G a15) (Fun.binds1 F15) (de_2 F15 ab0 as5 c7 ah6 ae7 ae9);have ae5:br_0 l.prog w K mg base:=c_3 F16 (mg_of X G a16) (Fun.binds3 F16) (de_3 F16 ah2);have p7:ae_0 l.prog w K mg base:=c_3 F17 (mg_of X G a17) (Fun.binds4 F17) (br_5 F17 af2 ae5 ae4 c9);have v5:ai_9 l.prog w K mg base:=c_3 F18 (mg_of X G a18) (Fun.binds3 F18) (ca_8 F18 j4 m8 p7);have z9:ah_0 l.prog w K mg base:=c_3 F19 (mg_of X G a19) (Fun.binds1 F19) (bb_9 F19 g8);have ad8:FnMd l.prog w K mg base true "take_away" 1 2 ["number", "edge", "standing"] n_2:=dt_4 F20 (mg_of X G a20) (Fun.binds3 F20) (br_6 F20);have ap1:ca_5 l.prog w K mg base:=c_3 F21 (mg_of X G a21) (Fun.binds2 F21) (cs_3 F21 z9 ad8 o5 g9 ag9 c9);have ai8:cg_7 l.prog w K mg base:=c_3 F22 (mg_of X G a22) (Fun.binds3 F22) (dm_5 F22 v5 ap1 j4 g9);have ag8:ba_8 l.prog w K mg base:=c_3 F23 (mg_of X G a23) (Fun.binds3 F23) (ca_9 F23 ai8 g9);have p8:ae_1 l.prog w K mg base:=c_3 F24 (mg_of X G a24) (Fun.binds3 F24) (br_7 F24 m8 ag8 c9 ao0);have q8:ae_2 l.prog w K mg base:=c_3 F25 (mg_of X G a25) (Fun.binds2 F25) (br_8 F25);have aa8:ba_9 l.prog w K mg base:=c_3 F26 (mg_of X G a26) (Fun.binds3 F26) (cs_4 F26 k8 q8 g9 ar7);have am7:ca_6 l.prog w K mg base:=c_3 F27 (mg_of X G a27) (Fun.binds5 F27) (cs_5 F27 aa8 k8 q8 p6);have ab3:MakD l.prog w K mg base true "Table" 1 5 aa_5:=⟨j1,_,_,_,n9,cg6,⟨bw7,a28,i28,bx0⟩,an_6 F28 n9 n8 x4 af1 r9 o8,(Fun.binds6 F28)⟩;have q9:ae_3 l.prog w K mg base:=c_3 F29 (mg_of X G a29) (Fun.binds5 F29) (br_9 F29 j4 v5 ai8 am7 ab3 g9);have at3:MakD l.prog w K mg base true "Kept" 9 5 aa_6:=⟨l6,_,_,_,y6,al7,⟨cg9,a30,i30,ci2⟩,aq_4 F30 y6 l5 m8 z8 p8 q9 j5 j6 c6 g9,(Fun.binds6 F30)⟩;have ac3:br_1 l.prog w K mg base:=c_3 F31 (mg_of X G a31) (Fun.binds2 F31) (dm_6 F31 ae5 l5 af2 ad5);have ai2:MakD l.prog w K mg base true "Marked" 9 4 r_8:=⟨c8,_,_,_,j7,af0,⟨bo1,a32,i32,bq2⟩,aj_0 F32 j7 p8 q9 ac3 l5 j5 j6 c6 g9,(Fun.binds5 F32)⟩;have u0:bb_0 l.prog w K mg base:=c_3 F33 (mg_of X G a33) (Fun.binds6 F33) (cb_0 F33 at3 ai2 ah4 an4);have af6:bb_1 l.prog w K mg base:=c_3 F34 (mg_of X G a34) (Fun.binds2 F34) (cb_1 F34);have ad2:at_3 l.prog w K mg base:=c_3 F35 (mg_of X G a35) (Fun.binds1 F35) (bs_0 F35 c7 ah0 x5);have p9:ae_4 l.prog w K mg base:=c_3 F36 (mg_of X G a36) (Fun.binds3 F36) (bs_1 F36);have ab9:an_2 l.prog w K mg base:=c_3 F37 (mg_of X G a37) (Fun.binds4 F37) (be_5 F37 ad2 p9 ae4 c9);have y7:at_4 l.prog w K mg base:=c_3 F38 (mg_of X G a38) (Fun.binds3 F38) (bs_2 F38 ar7);have ap5:MethD l.prog w K mg base true 1 0 "salt" "Table" s_0:=⟨⟨j1,_,_,_,n9,o7,⟨a39,i39,k39⟩,be_6 F39 n8,(Fun.binds1 F39)⟩⟩;have aa2:MethT l.prog w K mg base true 1 0 "salt" [("Table",s_0)]:=(.one ap5 (by decide) .nil);have am9:MethD l.prog w K mg base true 2 0 "salt" "Marked" f_0:=⟨⟨c8,_,_,_,j7,o6,⟨a40,i40,k40⟩,bc_0 F40 aa2 c6,(Fun.binds1 F40)⟩⟩;have an6:MethD l.prog w K mg base true 1 0 "table" "Table" i_8:=⟨⟨j1,_,_,_,n9,o7,⟨a41,i41,k41⟩,bc_1 F41 o8 o5,(Fun.binds1 F41)⟩⟩;have n5:MethT l.prog w K mg base true 1 0 "table" [("Table",i_8)]:=(.one an6 (by decide) .nil);have ak8:MethD l.prog w K mg base true 2 0 "table" "Marked" e_6:=⟨⟨c8,_,_,_,j7,o6,⟨a42,i42,k42⟩,au_6 F42 n5 c6,(Fun.binds1 F42)⟩⟩;have al3:MethD l.prog w K mg base true 5 1 "places" "Table" d_6:=⟨⟨j1,_,_,_,n9,o7,⟨a43,i43,k43⟩,au_7 F43 p7 af1 x4 n8,(Fun.binds2 F43)⟩⟩;have l9:MethT l.prog w K mg base true 5 1 "places" [("Table",d_6)]:=(.one al3 (by decide) .nil);have am0:MethD l.prog w K mg base true 6 1 "total" "Table" b_7:=⟨⟨j1,_,_,_,n9,o7,⟨a44,i44,k44⟩,bc_2 F44 aa8 l9 r9 o8,(Fun.binds2 F44)⟩⟩;have j2:MethT l.prog w K mg base true 6 1 "total" [("Table",b_7)]:=(.one am0 (by decide) .nil);have ac5:MethD l.prog w K mg base true 7 1 "knows" "Marked" b_6:=⟨⟨c8,_,_,_,j7,o6,⟨a45,i45,k45⟩,au_8 F45 ac3 j2 c6 j6,(Fun.binds2 F45)⟩⟩;have ak1:MethD l.prog w K mg base true 6 1 "places" "Marked" e_7:=⟨⟨c8,_,_,_,j7,o6,⟨a46,i46,k46⟩,aq_5 F46 l9 c6,(Fun.binds2 F46)⟩⟩;have ap7:MethD l.prog w K mg base true 7 1 "value" "Kept" d_9:=⟨⟨l6,_,_,_,y6,ac8,⟨a47,i47,k47⟩,be_7 F47 j2 c6,(Fun.binds2 F47)⟩⟩;have ap9:MethD l.prog w K mg base true 2 0 "table" "Kept" i_1:=⟨⟨l6,_,_,_,y6,ac8,⟨a48,i48,k48⟩,be_8 F48 n5 c6,(Fun.binds1 F48)⟩⟩;have n6:MethT l.prog w K mg base true 2 0 "salt" [("Marked",f_0)]:=(.one am9 (by decide) .nil);have l7:MethT l.prog w K mg base true 2 0 "table" [("Marked",e_6)]:=(.one ak8 (by decide) .nil);have m6:MethT l.prog w K mg base true 7 1 "knows" [("Marked",b_6)]:=(.one ac5 (by decide) .nil);have u7:MethT l.prog w K mg base true 6 1 "places" [("Marked",e_7)]:=(.one ak1 (by decide) .nil);have m9:MethT l.prog w K mg base true 7 1 "value" [("Kept",d_9)]:=(.one ap7 (by decide) .nil);have aa3:MethT l.prog w K mg base true 2 0 "table" [("Kept",i_1)]:=(.one ap9 (by decide) .nil);have y8:at_5 l.prog w K mg base:=c_3 F49 (mg_of X G a49) (Fun.binds6 F49) (bs_3 F49 af6 ab9 y7 p9 n6 l7 m6 u7 m9 aa3 g9 c7 ab7 r0);have ad0:MethD l.prog w K mg base true 7 1 "knows" "MarkedAgain" c_5:=⟨⟨g7,_,_,_,l4,o9,⟨a50,i50,k50⟩,ae_5 F50 ac3 j2 c6 j6,(Fun.binds2 F50)⟩⟩;have l3:MethT l.prog w K mg base true 7 1 "knows" [("Marked",b_6),("MarkedAgain",c_5)]:=(.one ac5 (by decide) (.one ad0 (by decide) .nil));have ab8:bb_2 l.prog w K mg base:=c_3 F51 (mg_of X G a51) (Fun.binds4 F51) (cb_2 F51 l8 l3 cc7 ag9 c9 af5 u4 k7);have aa5:ah_1 l.prog w K mg base:=c_3 F52 (mg_of X G a52) (Fun.binds2 F52) (bc_3 F52);have ad4:at_6 l.prog w K mg base:=c_3 F53 (mg_of X G a53) (Fun.binds2 F53) (bs_4 F53 aa5 g8 g9 y0);have aa6:ah_2 l.prog w K mg base:=c_3 F54 (mg_of X G a54) (Fun.binds1 F54) (bc_4 F54);have ac9:at_7 l.prog w K mg base:=c_3 F55 (mg_of X G a55) (Fun.binds2 F55) (bs_5 F55 ad4 aa6 g9);have v7:ab_9 l.prog w K mg base:=c_3 F56 (mg_of X G a56) (Fun.binds3 F56) (aq_6 F56 ac9);have y3:MakD l.prog w K mg base true "MarkedAgain" 1 3 p_2:=⟨g7,_,_,_,l4,an2,⟨ao2,a57,i57,am1⟩,z_6 F57 l4 j5 c6 j6,(Fun.binds4 F57)⟩;have ag0:bb_3 l.prog w K mg base:=c_3 F58 (mg_of X G a58) (Fun.binds7 F58) (cb_3 F58 j4 v7 l5 ab3 y3);have ac0:an_3 l.prog w K mg base:=c_3 F59 (mg_of X G a59) (Fun.binds1 F59) (be_9 F59 ag0);have u6:z_5 l.prog w K mg base:=c_3 F60 (mg_of X G a60) (Fun.binds2 F60) (an_7 F60 c9 ah6);have aj8:bj_9 l.prog w K mg base:=c_3 F61 (mg_of X G a61) (Fun.binds2 F61) (cg_9 F61 l5 k8 u6 g8 y0);have an7:MethD l.prog w K mg base true 1 0 "many" "Marked" m_2:=⟨⟨c8,_,_,_,j7,o6,⟨a62,i62,k62⟩,bc_5 F62 j5,(Fun.binds1 F62)⟩⟩;have x9:MethT l.prog w K mg base true 1 0 "many" [("Marked",m_2)]:=(.one an7 (by decide) .nil);have aj6:bk_0 l.prog w K mg base:=c_3 F63 (mg_of X G a63) (Fun.binds4 F63) (ch_0 F63 aj8 l7 x9 n6 x4 c6);have ac2:an_4 l.prog w K mg base:=c_3 F64 (mg_of X G a64) (Fun.binds1 F64) (bf_0 F64 aj6 j6 c7 ai3 ai1 ag6 ag4 as7 al7 aj7 af0);exact ds_7 (du_9 (P:=l.prog) (w:=w) (base:=base) F65 ad6 u9 u0 y8 ab8 ac0 ac2 m9 m6 c9 g9 o5 c7 ah0 ag9 p6 x5) de_0
end My


open PySem PySem.W PyProof.Rows
set_option maxRecDepth 100000 in
set_option maxHeartbeats 0 in
theorem PySem.Challenge.cw_lodge_k85_whole_values_and_strangers_holds : PySem.Challenge.rw_lodge_k85_whole_values_and_strangers.Holds := by
 w_on; o_law; k_head; (case hw => w_witness2)
 k_fill
 refine L3.dy_7 (l := PySem.Challenge.rw_lodge_k85_whole_values_and_strangers) (x := "_law_script") (k := 12) rfl rfl ⟨rfl, by decide, by decide⟩ (fun w h Y => PySem.W.kIn_of Y) ?F
 case F =>
  intro w mg fa h KX G hmg
  refine' My.dv_0 KX G hmg ?c1 ?c2 ?c3 ?c4 ?c5 ?c6 ?c7 ?c8 ?c9 ?c10 ?c11 ?c12 ?c13 ?c14 ?c15 ?c16 ?c17 ?c18 ?c19 ?c20 ?c21 ?c22 ?c23 ?c24 ?c25 ?c26 ?c27 ?c28 ?c29 ?c30 ?c31 ?c32 ?c33 ?c34 ?c35 ?c36 ?c37 ?c38 ?c39 ?c40 ?c41 ?c42 ?c43 ?c44 ?c45 ?c46 ?c47 ?c48 ?c49 ?c50 ?c51 ?c52 ?c53 ?c54 ?c55 ?c56 ?c57 ?c58 ?c59 ?c60 ?c61 ?c62 ?c63 ?c64 ?c65 ?c66 ?c67 ?c68 ?c69 ?c70 ?c71 ?c72 ?c73 ?c74 ?c75 ?c76 ?c77 ?c78 ?c79 ?c80 ?c81 ?c82 ?c83 ?c84 ?c85 ?c86 ?c87 ?c88 ?c89 ?c90 ?c91 ?c92 ?c93 ?c94 ?c95 ?c96 ?c97 ?c98 ?c99 ?c100 ?c101 ?c102 ?c103 ?c104 ?c105 ?c106 ?c107 ?c108 ?c109 ?c110 ?c111 ?c112 ?c113 ?c114 ?c115 ?c116 ?c117 ?c118 ?c119 ?c120 ?c121 ?c122 ?c123 ?c124 ?c125 ?c126 ?c127 ?c128 ?c129 ?c130 ?c131 ?c132 ?c133 ?c134 ?c135 ?c136 ?c137 ?c138 ?c139 ?c140 ?c141 ?c142 ?c143 ?c144 ?c145 ?c146 ?c147 ?c148 ?c149 ?c150 ?c151 ?c152 ?c153 ?c154 ?c155 ?c156 ?c157 ?c158 ?c159 ?c160 ?c161 ?c162 ?c163 ?c164 ?c165 ?c166 ?c167 ?c168 ?c169 ?c170 ?c171 ?c172 ?c173 ?c174 ?c175 ?c176 ?c177 ?c178 ?c179 ?c180 ?c181 ?c182 ?c183 ?c184 ?c185 ?c186 ?c187 ?c188 ?c189 ?c190 ?c191 ?c192 ?c193 ?c194 ?c195 ?c196 ?c197 ?c198 ?c199 ?c200 ?c201 ?c202 ?c203 ?c204 ?c205 ?c206 ?c207 ?c208 ?c209 ?c210 ?c211 ?c212 ?c213 ?c214 ?c215 ?c216 ?c217 ?c218 ?c219 ?c220 ?c221 ?c222 ?c223 ?c224 ?c225 ?c226 ?c227 ?c228 ?c229 ?c230 ?c231 ?c232 ?c233 ?c234 ?c235 ?c236 ?c237 ?c238 ?c239 ?c240 ?c241 ?c242 ?c243 ?c244 ?c245 ?c246 ?c247 ?c248 ?c249 ?c250 ?c251 ?c252 ?c253 ?c254 ?c255 ?c256 ?c257 ?c258 ?c259 ?c260 ?c261 ?c262 ?c263 ?c264 ?c265 ?c266 ?c267 ?c268 ?c269 ?c270 ?c271 ?c272 ?c273 ?c274 ?c275 ?c276 ?c277 ?c278 ?c279 ?c280 ?c281 ?c282 ?c283 ?c284 ?c285 ?c286 ?c287 ?c288 ?c289 ?c290 ?c291 ?c292 ?c293 ?c294 ?c295 ?c296 ?c297 ?c298 ?c299 ?c300 ?c301 ?c302 ?c303 ?c304 ?c305 ?c306 ?c307 ?c308 ?c309 ?c310 ?c311 ?c312 ?c313 ?c314 ?c315 ?c316 ?c317 ?c318 ?c319 ?c320 ?c321 ?c322 ?c323 ?c324 ?c325 ?c326 ?c327 ?c328 ?c329 ?c330
  (case c1 | c2 | c3 | c4 | c5 | c6 | c7 | c8 | c9 | c10 | c11 | c12 | c13 | c14 | c15 | c16 | c17 | c18 | c19 | c20 | c21 | c22 | c23 | c24 | c25 | c26 | c27 | c28 | c29 | c30 | c31 | c32 | c33 | c34 | c35 | c36 | c37 | c38 | c39 | c40 | c41 | c42 | c43 | c44 | c45 | c46 | c47 | c48 | c49 | c50 | c51 | c52 | c53 | c54 | c55 | c56 | c57 | c58 | c59 | c60 | c61 | c62 | c63 | c64 | c65 | c66 | c67 | c68 | c69 | c70 | c135 | c136 | c137 | c138 | c139 | c140 | c141 | c142 | c143 | c144 | c145 | c146 | c147 | c148 | c149 | c150 | c151 | c152 | c171 | c172 | c173 | c174 | c175 | c176 | c177 | c178 | c179 | c180 | c181 | c182 | c183 | c184 | c185 | c186 | c187 | c188 | c193 | c194 | c195 | c198 | c199 | c202 | c203 | c204 | c205 | c206 | c207 | c208 | c209 | c210 | c211 | c212 | c213 | c215 | c216 | c217 | c220 | c221 | c224 | c225 | c226 | c227 | c228 | c229 | c230 | c231 | c232 | c233 | c234 | c235 | c237 | c238 | c239 | c242 | c243 | c246 | c247 | c248 | c249 | c250 | c251 | c252 | c253 | c254 | c255 | c256 | c257 | c259 | c260 | c261 | c264 | c265 | c268 | c269 | c270 | c271 | c272 | c273 | c274 | c275 | c276 | c277 | c278 | c279 | c281 | c282 | c285 | c286 | c289 | c290 | c291 | c292 | c293 | c294 | c295 | c297 | c298 | c301 | c302 | c305 | c306 | c307 | c308 | c309 | c310 | c311 | c313 | c314 | c317 | c318 | c321 | c322 | c323 | c324 | c325 | c326 | c327 | c329 | c330 => k_is)
  (case c71 | c72 | c73 | c74 | c75 | c76 | c77 | c78 | c79 | c80 | c81 | c82 | c83 | c84 | c85 | c86 | c87 | c88 | c89 | c90 | c91 | c92 | c93 | c94 | c95 | c96 | c97 | c99 | c101 | c103 | c104 | c105 | c106 | c107 | c108 | c119 | c121 | c122 | c123 | c124 | c125 | c126 | c128 | c129 | c130 | c131 | c133 | c134 => (refine' L3.FnTop.mk ?a ?l ?c ?k; (case a => k_is); (case l => k_is); (case c => k_is); (case k => k_is)))
  (case c98 | c100 | c102 | c109 | c110 | c111 | c112 | c113 | c114 | c115 | c116 | c117 | c118 | c120 | c127 | c132 => (refine' L3.FnMet.mk ?a ?l ?c ?k ?i; (case a => k_is); (case l => k_is); (case c => k_is); (case k => k_is); (case i => k_is)))
  (case c153 | c154 | c155 | c156 | c157 | c158 | c159 | c160 | c161 | c162 | c163 | c164 | c165 | c166 | c167 | c168 | c169 | c170 | c189 | c190 | c191 | c192 => kit_is)
  (case c196 | c197 | c200 | c201 | c218 | c219 | c222 | c223 | c240 | c241 | c244 | c245 | c262 | c263 | c266 | c267 | c283 | c284 | c287 | c288 | c299 | c300 | c303 | c304 | c315 | c316 | c319 | c320 => rfl)
  (case c214 | c236 | c258 | c280 | c296 | c312 | c328 => kts_exm)

end
