import PyProof.Rows.All
import Wide.All
import OpenK.AllK
import Wide.FinOn
import Lean
import PyProof.EqAt
import PyProof.EqKinds
import PyProof.TupleCall
import PySem.Challenge.RW_lodge_k67_halves_refused
set_option Elab.async false
set_option linter.all false
set_option maxRecDepth 100000
set_option genSizeOf false
namespace PySem.W.Fast
def tw4728202934022104158 := 0
def tw6301007434448406377 := 0
def tw17706249721793950000 := 0
def tw2853619274328596781 := 0
def tw13577352350816951175 := 0
def tw8458721485683700420 := 0
def tw10995638336715660381 := 0
def tw16031847395565056690 := 0
def tw5856788572648478375 := 0
def tw6093957573710171486 := 0
def tw7861658821407995574 := 0
def tw3774124661479766 := 0
def tw9114381126824051038 := 0
def tw11779050119475851704 := 0
def tw5636608338780409792 := 0
def tw6427299780593903496 := 0
def tw16377983244189702565 := 0
def tw11124761042333854435 := 0
def tw3953516146625111913 := 0
def tw16174142759287449280 := 0
def tw9468945586920008665 := 0
def tw5207379548712318358 := 0
def tw1743933634142489152 := 0
def tw13737266903506843932 := 0
def tw3292072015608516499 := 0
def tw6605222823214740154 := 0
def tw15545069585127765386 := 0
def tw16977170914039973951 := 0
def tw15047613750447395235 := 0
def tw9248600450951642523 := 0
def tw9564604100461623177 := 0
def tw13618188603573581063 := 0
def tw9909908161747743702 := 0
def tw9821166883646527907 := 0
def tw1056933734222366131 := 0
def tw16350852432140804926 := 0
def tw7931169344330151070 := 0
def tw4874069836612234807 := 0
def tw5451732611627170091 := 0
def tw15973195231133327149 := 0
def tw9434915576430834997 := 0
def tw14425557413171181271 := 0
def tw232589579243683862 := 0
def tw12377264239370267690 := 0
def tw9649161316666288145 := 0
def tw3952049153344209418 := 0
def tw10356879012892646171 := 0
def tw12688842742171283712 := 0
def tw183665712091695978 := 0
def tw16793042394517032578 := 0
end PySem.W.Fast
noncomputable section
open PySem.W (Frag InitBack InstAt KitX Looks any_some bind_fn callWith_K callWith_K0 cellsFrom_some check_slot class_get clsIn cls_value codeIn codeRec_of emptyDict eq_bytes exmOne exm_one findCls findIn findObj findObj_own fnOf get_value handedIn handedOut_of handed_on hasDictIn hideAll hideAll_get hideAll_none hideAll_size instObj isFn keepIn kia_one kia_tup kitAny kitOne kitx_bool kitx_int kitx_list kitx_none kitx_str kitx_tuple kun_itemsOf lookIn looks_clsIn looks_find looks_findIn looks_mroIn make_core makesIn makes_of methodCall_KW methodObj method_cls method_fn mg_none_of mg_of mroIn ne_bytes notCls nsIn of_hideAll osa_eq osa_open plainGet plainGet_of plainOver readsIn set_plain specialIn takerIn takesIn truthy_bytes typeIn)
local macro_rules
 | `(tactic| simp_arith [$xs,*] $[$l:location]?) => `(tactic| simp only [Nat.reduceAdd, Nat.reduceSub, Nat.reduceLeDiff, ↓reduceIte, reduceCtorEq, $xs,*] $[$l:location]?)
namespace L2
open PySem PySem.Spec PyProof.Rows
abbrev Key:=Sum Int Str
def at_3:Key→Value→Bool
 | .inl k,v=>Value.isInt k v
 | .inr x,v=>Value.isStrOf x v
def keyH(w:World):Key→Int
 | .inl k=>hashInt k
 | .inr x=>hashStr w x
theorem h_3:∀{k:Key} {v:Value},at_3 k v=true→(∃i t,k=Sum.inl i∧v=Value.int i t)∨(∃x t,k=Sum.inr x∧v=Value.str x t)
 | .inl i,v,h=>by
  obtain⟨t,e⟩:=Value.isInt_shape (k:=i) (v:=v) h;exact .inl ⟨i,t,rfl,e⟩
 | .inr x,v,h=>by
  obtain⟨t,e⟩:=Value.isStrOf_shape (x:=x) (v:=v) h;exact .inr ⟨x,t,rfl,e⟩
theorem bu_3(i:Int)(t:Tok):at_3 (.inl i) (.int i t)=true:=by simp [at_3,Value.isInt]
theorem bu_4(x:Str)(t:Tok):at_3 (.inr x) (.str x t)=true:=by simp [at_3,Value.isStrOf]
theorem cq_6(a b:Int):decide ((Sum.inl a:Key)=Sum.inl b)=(a ==b):=by
 by_cases e:a=b
 ·subst e;simp
 ·have h:¬(Sum.inl a:Key)=Sum.inl b:=fun q=>e (Sum.inl.inj q);rw [decide_eq_false h];exact(beq_eq_false_iff_ne.mpr e).symm
theorem cq_7(a b:Str):decide ((Sum.inr a:Key)=Sum.inr b)=decide (a=b):=by
 by_cases e:a=b
 ·subst e;simp
 ·have h:¬(Sum.inr a:Key)=Sum.inr b:=fun q=>e (Sum.inr.inj q);rw [decide_eq_false h,decide_eq_false e]
theorem cq_8(a:Int)(b:Str):decide ((Sum.inl a:Key)=Sum.inr b)=false:=decide_eq_false (fun q=>nomatch q)
theorem cq_9(a:Str)(b:Int):decide ((Sum.inr a:Key)=Sum.inl b)=false:=decide_eq_false (fun q=>nomatch q)
def j_8(prog:Program)(w:World):PySem.KeyKind prog w Key where
 is:=at_3
 hash:=keyH w
 inj:=fun v a b ha hb=>by
  rcases h_3 ha with⟨i,t,rfl,rfl⟩|⟨x,t,rfl,rfl⟩
  ·rcases h_3 hb with⟨j,u,rfl,e⟩|⟨y,u,rfl,e⟩
   ·injection e with e1 _;rw [e1]
   ·exact nomatch e
  ·rcases h_3 hb with⟨j,u,rfl,e⟩|⟨y,u,rfl,e⟩
   ·exact nomatch e
   ·injection e with e1 _;rw [e1]
 byValue:=fun k v h=>by
  rcases h_3 h with⟨i,t,rfl,rfl⟩|⟨x,t,rfl,rfl⟩ <;> rfl
 pyHash:=fun hv h=>by
  rcases h_3 hv with⟨i,t,rfl,rfl⟩|⟨x,t,rfl,rfl⟩
  ·exact wpAny_pyHash_int h
  ·exact wpAny_pyHash_str h
 eqBool:=fun hu hv h=>by
  rcases h_3 hu with⟨i,t,rfl,rfl⟩|⟨x,t,rfl,rfl⟩
  ·rcases h_3 hv with⟨j,u,rfl,rfl⟩|⟨y,u,rfl,rfl⟩
   ·rw [cq_6] at h;exact wpAny_eqBool_int h
   ·rw [cq_8] at h;exact SeqAt.EqAt.int_str i t y u _ _ _ _ h
  ·rcases h_3 hv with⟨j,u,rfl,rfl⟩|⟨y,u,rfl,rfl⟩
   ·rw [cq_9] at h;exact SeqAt.EqAt.str_int x t j u _ _ _ _ h
   ·rw [cq_7] at h;exact wpAny_eqBool_str h
 «strs»:=fun k x t v h=>by
  rcases h_3 h with⟨i,u,rfl,e⟩|⟨y,u,rfl,e⟩
  ·exact nomatch e
  ·injection e with e1 _
   subst e1;cases v <;> rfl
theorem bd_5(prog:Program)(w:World)(i:Int)(t:Tok):(j_8 prog w).is (.inl i) (.int i t)=true:=bu_3 i t
theorem bd_6(prog:Program)(w:World)(x:Str)(t:Tok):(j_8 prog w).is (.inr x) (.str x t)=true:=bu_4 x t
inductive V where
 |non|bl (b:Bool)|int (i:Int)|str (x:Str)|byt (b:Array UInt8)|flt (b:UInt64)|ref (a:Addr)|ty (n:String)
 deriving DecidableEq
def RelV:V→Value→Prop
 | .non,u=>u=Value.none
 | .bl b,u=>u=Value.bool b
 | .int i,u=>∃t,u=Value.int i t
 | .str x,u=>∃t,u=Value.str x t
 | .byt b,u=>∃t,u=Value.bytes b t
 | .flt b,u=>∃t,u=Value.float b t
 | .ref a,u=>u=Value.ref a
 | .ty n,u=>u=Value.type n
abbrev Vals:List V→List Value→Prop:=Paired RelV
theorem Vals.length{xs:List V}{us:List Value}(r:Vals xs us):xs.length=us.length:=Paired.length r
theorem Vals.get:∀{xs:List V} {us:List Value} {i:Nat} {x:V},Vals xs us→xs[i]? =some x→∃u,us[i]? =some u∧RelV x u
 |_,_,_,_, .nil,e=>by simp at e
 |_,_,0,_, .cons r _,e=>by simp at e;subst e;exact⟨_,rfl,r⟩
 |_,_,i + 1,x, .cons _ t,e=>by
  obtain⟨u,h1,h2⟩:=Vals.get (i:=i) (x:=x) t (by simpa using e);exact⟨u,by simpa using h1,h2⟩
theorem Vals.set{x:V}{u:Value}(r:RelV x u):∀{xs:List V} {us:List Value} (i:Nat),Vals xs us→Vals (xs.set i x) (us.set i u)
 |_,_,_, .nil=> .nil
 |_,_,0, .cons _ t=> .cons r t
 |_,_,i + 1, .cons q t=> .cons q (Vals.set r i t)
theorem Vals.append:∀{xs ys:List V} {us ws:List Value},Vals xs us→Vals ys ws→Vals (xs ++ ys) (us ++ ws)
 |_,_,_,_, .nil,s=>s
 |_,_,_,_, .cons r t,s=> .cons r (Vals.append t s)
theorem Vals.take:∀{xs:List V} {us:List Value} (n:Nat),Vals xs us→Vals (xs.take n) (us.take n)
 |_,_,0,_=> .nil
 |_,_,_ + 1, .nil=> .nil
 |_,_,n + 1, .cons r t=> .cons r (Vals.take n t)
theorem Vals.drop:∀{xs:List V} {us:List Value} (n:Nat),Vals xs us→Vals (xs.drop n) (us.drop n)
 |_,_,0,r=>r
 |_,_,_ + 1, .nil=> .nil
 |_,_,n + 1, .cons _ t=>Vals.drop n t
def RelO:Option V→Option Value→Prop
 |some v,some u=>RelV v u
 |none,none=>True
 |_,_=>False
def KV{κ:Type}:List (κ×V)→List (κ×Value)→Prop:=Paired fun(p:κ×V) (q:κ×Value)=>p.1=q.1∧RelV p.2 q.2
def kV:Key→V
 | .inl i=> .int i
 | .inr x=> .str x
inductive HO where
  |lst (xs:List V)
  |tup (xs:List V)
  |dK (kvs:List (Key×V))|dT (kvs:List (List Key×V))
  |set (S:Int→Bool) (n:Nat)
  |ins (C dx:Addr) (fs:List (Str×V))
  |own (x:Addr)
  |xd (fs:List (Str×V))
  |met (f x:Addr)
  |rng (lo hi:Int)
  |frz (o:Obj) (u:HO)
  |tbl (ps:Array Value)
  |ext (φ:Heap→Prop)
abbrev Hp:=Addr→Option HO
def upd(H:Hp)(a:Addr)(o:HO):Hp:=fun b=>if b=a then some o else H b
theorem b_4{H:Hp}{a:Addr}{o:HO}:upd H a o a=some o:=by unfold upd;rw [if_pos rfl]
theorem b_1{H:Hp}{a b:Addr}{o:HO}(h:b≠a):upd H a o b=H b:=by unfold upd;rw [if_neg h]
theorem cy_0{H:Hp}{a b:Addr}{o u:HO}(h:H a=some o)(h':H b=some u)(d:o≠u):a≠b:=by
 intro e;subst e;rw [h] at h';exact d (Option.some.inj h')
theorem c_2{H:Hp}{a b:Addr}{o:HO}(h:H a=some o)(h':H b=none):a≠b:=by
 intro e;subst e;rw [h] at h';cases h'
section
variable(P:Program)(w:World)
def ObjOk(H:Hp)(h:Heap)(a:Addr):HO→Prop
 | .lst xs=>xs.length≤sizeLine∧∃(its:List Value) (n:Nat),Vals xs its∧h.get? a=some {cls:= .type "list",data:= .seq its.toArray n}
 | .tup xs=>xs.length≤sizeLine∧∃its:List Value,Vals xs its∧IsTup h a its.toArray
 | .dK kvs=>kvs.length≤sizeLine∧(a ==sysModules)=false∧∃vs,KV kvs vs∧h.DictOf (j_8 P w) a vs
 | .dT kvs=>kvs.length≤sizeLine∧(a ==sysModules)=false∧∃xs:List (List Key×Addr×Value),
   Paired (fun(p:List Key×V) (q:List Key×Addr×Value)=>p.1=q.1∧H q.2.1=some (.tup (p.1.map kV))∧RelV p.2 q.2.2) kvs xs∧
   ∃o es ep,h.get? a=some o∧o.ExactDict∧o.data= .dict es ep∧es.toList=xs.map (entryOfKey (tupleKind (j_8 P w)))∧(xs.map (·.1)).Nodup
 | .set S n=>h.SetOf (intKind P w) a S n
 | .ins C dx fs=>H dx=some (.own a)∧fs.length≤1000∧dx≠a∧h.get? a=some (instObj C dx)∧
   ∃mA,h.Ns1 dx mA∧(∀f,RelO (fs.lookup f) (mA f))∧PySem.Within mA (fs.map (·.1))
 | .own _=>∃o,h.get? a=some o
 | .xd fs=>∃mA,h.Ns1 a mA∧∀f,RelO (fs.lookup f) (mA f)
 | .rng lo hi=>∃t u v,h.get? a=some {cls:= .type "range",data:= .fields #[.int lo t, .int hi u, .int 1 v]}
 | .frz o u=>h.get? a=some o∧ObjOk H h a u
 | .tbl ps=>h.get? a=some {cls:= .none,data:= .fields ps}
 | .met f x=>h.get? a=some (methodObj (.ref f) (.ref x))
 | .ext φ=>φ h∧(∃o,h.get? a=some o)∧∀h1 h2:Heap,φ h1→(∀o,h1.get? a=some o→h2.get? a=some o)→φ h2
def HOk(H:Hp)(h:Heap):Prop:=∀a o,H a=some o→ObjOk P w H h a o
end
section
variable{P:Program}{w:World}{H H':Hp}{h h':Heap}{a:Addr}{o:HO}
theorem ObjOk.lt(x:ObjOk P w H h a o):a < h.objs.size:=by
 cases o with
 |lst xs=>obtain⟨_,_,_,_,e⟩:=x;exact Heap.lt_size e
 |tup xs=>obtain⟨_,_,_,p⟩:=x;exact p.lt
 |dK kvs=>obtain⟨_,_,_,_,o,_,_,e,_⟩:=x;exact Heap.lt_size e
 |dT kvs=>obtain⟨_,_,_,_,o,_,_,e,_⟩:=x;exact Heap.lt_size e
 |set S n=>obtain⟨o,_,_,_,e,_⟩:=x;exact Heap.lt_size e
 |ins C dx fs=>obtain⟨_,_,_,e,_⟩:=x;exact Heap.lt_size e
 |own y=>obtain⟨_,e⟩:=x;exact Heap.lt_size e
 |xd fs=>obtain⟨_,⟨_,_,_,e,_⟩,_⟩:=x;exact Heap.lt_size e
 |rng lo hi=>obtain⟨_,_,_,e⟩:=x;exact Heap.lt_size e
 |frz ob u=>obtain⟨e,_⟩:=x;exact Heap.lt_size e
 |tbl ps=>exact Heap.lt_size (show h.get? a=some _ from x)
 |met f y=>exact Heap.lt_size (show h.get? a=some _ from x)
 |ext φ=>obtain⟨_,⟨_,e⟩,_⟩:=x;exact Heap.lt_size e
theorem Paired.mapP{α β:Type}{F G:α→β→Prop}:∀{l₁:List α} {l₂:List β},Paired F l₁ l₂→(∀a b,F a b→G a b)→Paired G l₁ l₂
 |_,_, .nil,_=> .nil
 |_,_, .cons r t,f=> .cons (f _ _ r) (Paired.mapP t f)
theorem ObjOk.stay(x:ObjOk P w H h a o)(k:∀b u,(b=a∨H b=some (.own a))→h.get? b=some u→h'.get? b=some u)
  (ho:∀b,H b=some (.own a)→H' b=some (.own a)) (ht:∀b xs,H b=some (.tup xs)→H' b=some (.tup xs)):ObjOk P w H' h' a o:=by
 induction o with
 |lst xs=>obtain⟨z,its,n,r,e⟩:=x;exact⟨z,its,n,r,k _ _ (.inl rfl) e⟩
 |tup xs=>obtain⟨z,its,r,ob,e,c⟩:=x;exact⟨z,its,r,ob,k _ _ (.inl rfl) e,c⟩
 |dK kvs=>obtain⟨z,y,vs,r,ob,es,ep,e,c⟩:=x;exact⟨z,y,vs,r,ob,es,ep,k _ _ (.inl rfl) e,c⟩
 |dT kvs=>
  obtain⟨z,y,xs,r,ob,es,ep,e,c⟩:=x;exact⟨z,y,xs,Paired.mapP r fun p q z=>⟨z.1,ht _ _ z.2.1,z.2.2⟩,ob,es,ep,k _ _ (.inl rfl) e,c⟩
 |set S n=>obtain⟨ob,es,ep,t,e,c⟩:=x;exact⟨ob,es,ep,t,k _ _ (.inl rfl) e,c⟩
 |ins C dx fs=>
  obtain⟨d,z,ne,e,mA,⟨od,es,ep,e2,c⟩,r⟩:=x;exact⟨ho _ d,z,ne,k _ _ (.inl rfl) e,mA,⟨od,es,ep,k _ _ (.inr d) e2,c⟩,r⟩
 |own y=>obtain⟨ob,e⟩:=x;exact⟨ob,k _ _ (.inl rfl) e⟩
 |xd fs=>obtain⟨mA,⟨od,es,ep,e,c⟩,r⟩:=x;exact⟨mA,⟨od,es,ep,k _ _ (.inl rfl) e,c⟩,r⟩
 |rng lo hi=>obtain⟨t,u,v,e⟩:=x;exact⟨t,u,v,k _ _ (.inl rfl) e⟩
 |frz ob u ih=>obtain⟨e,q⟩:=x;exact⟨k _ _ (.inl rfl) e,ih q⟩
 |tbl ps=>
  have e:h.get? a=some {cls:= .none,data:= .fields ps}:=x;show h'.get? a=some {cls:= .none,data:= .fields ps};exact k a _ (.inl rfl) e
 |met f y=>
  have e:h.get? a=some (methodObj (.ref f) (.ref y)):=x;show h'.get? a=some (methodObj (.ref f) (.ref y));exact k a _ (.inl rfl) e
 |ext φ=>obtain⟨p,⟨o,e⟩,st⟩:=x;exact⟨st _ _ p fun o q=>k _ _ (.inl rfl) q,⟨o,k _ _ (.inl rfl) e⟩,st⟩
theorem HOk.lt(x:HOk P w H h)(e:H a=some o):a < h.objs.size:=(x a o e).lt
theorem HOk.fresh(x:HOk P w H h)(e:h.objs.size≤a):H a=none:=by
 cases q:H a with
 |none=>rfl
 |some u=>exact absurd (Nat.lt_of_lt_of_le (x.lt q) e) (Nat.lt_irrefl _)
theorem HOk.kept(x:HOk P w H h)(k:∀b u,h.get? b=some u→h'.get? b=some u):HOk P w H h':=fun a o e=>
 (x a o e).stay (fun b u _ q=>k b u q) (fun _ q=>q) fun _ _ q=>q
theorem HOk.laid(x:HOk P w H h)(k:∀b u,h.get? b=some u→h'.get? b=some u)(hp:h.objs.size≤a)(new:ObjOk P w (upd H a o) h' a o):HOk P w (upd H a o) h':=fun b u e=>by
 have hn:=x.fresh hp
 by_cases hb:b=a
 ·subst hb;rw [b_4] at e;cases e;exact new
 ·rw [b_1 hb] at e;exact(x b u e).stay (fun c v _ q=>k c v q) (fun c q=>by rw [b_1 (c_2 q hn)];exact q) fun c xs q=>by rw [b_1 (c_2 q hn)];exact q
end
def Rd(H:Hp)(a:Addr)(u:HO):Prop:=H a=some u∨∃o,H a=some (.frz o u)
theorem Rd.ok{P:Program}{w:World}{H:Hp}{h:Heap}{a:Addr}{u:HO}(r:Rd H a u)(x:HOk P w H h):ObjOk P w H h a u:=by
 rcases r with r|⟨o,r⟩
 ·exact x a u r
 ·obtain⟨_,q⟩:=x a _ r;exact q
def Mut:Option HO→Prop
 |some (.lst _)=>True
 |some (.dK _)=>True
 |some (.dT _)=>True
 |some (.set _ _)=>True
 |some (.ins _ _ _)=>True
 |some (.ext _)=>True
 |_=>False
section
variable{P:Program}{w:World}{H:Hp}{h h':Heap}{x e:Addr}{o':HO}
theorem HOk.write(ok:HOk P w H h)(mu:Mut (H x))(he:e=x∨H e=some (.own x))(k:∀b u,b≠e→h.get? b=some u→h'.get? b=some u)(heo:∃u,h'.get? e=some u)
  (new:ObjOk P w (upd H x o') h' x o'):HOk P w (upd H x o') h':=fun b u q=>by
 have cy:∀c y,H c=some (.own y)→c≠x:=fun c y r z=>by subst z;rw [r] at mu;exact mu
 have df:∀c xs,H c=some (.tup xs)→c≠x:=fun c xs r z=>by subst z;rw [r] at mu;exact mu
 by_cases hb:b=x
 ·subst hb;rw [b_4] at q;cases q;exact new
 ·rw [b_1 hb] at q
  by_cases hbe:b=e
  ·have q':H b=some (.own x):=by
    rcases he with z|z
    ·exact absurd (hbe.trans z) hb
    ·rw [hbe];exact z
   rw [q] at q';cases q';obtain⟨v,hv⟩:=heo;exact⟨v,by rw [hbe];exact hv⟩
  ·refine(ok b u q).stay (fun c v hc r=>k c v ?_ r) (fun c r=>by rw [b_1 (cy c b r)];exact r) fun c xs r=>by rw [b_1 (df c xs r)];exact r
   rcases hc with rfl|hc
   ·exact hbe
   ·rintro rfl
    rcases he with z|z
    ·exact cy c b hc z
    ·rw [hc] at z;cases z;exact hb rfl
end
structure Un(fs ex:List Addr)(H H':Hp)(h h':Heap):Prop where
 keep:∀b o,h.get? b=some o→H b=none→b∉fs→b∉ex→h'.get? b=some o
 slot:∀b o,h.get? b=some o→H b=none→b∈fs→b∉ex→∃sl,h'.get? b=some {o with slots:=sl}
 free:∀b o,h.get? b=some o→H b=none→b∉ex→H' b=none
 there:∀b o,h.get? b=some o→b∉ex→∃o',h'.get? b=some o'
 tups:∀b xs,H b=some (.tup xs)→H' b=some (.tup xs)
 frzs:∀b o u,H b=some (.frz o u)→H' b=some (.frz o u)
 tbls:∀b ps,H b=some (.tbl ps)→∃more,H' b=some (.tbl (ps ++ more))
section
variable{fs fs' ex ex':List Addr}{H H1 H2:Hp}{h h1 h2 h':Heap}{a x e:Addr}{o:HO}
theorem Un.any(u:Un fs ex H H1 h h1){b:Addr}{ob:Obj}(q:h.get? b=some ob)(n:H b=none)(hx:b∉ex):∃sl,h1.get? b=some {ob with slots:=sl}:=by
 by_cases hb:b∈fs
 ·exact u.slot b ob q n hb hx
 ·exact⟨ob.slots,u.keep b ob q n hb hx⟩
theorem Un.kept(k:∀b u,h.get? b=some u→h'.get? b=some u):Un fs ex H H h h':=
 ⟨fun b ob q _ _ _=>k b ob q,fun b ob q _ _ _=>⟨ob.slots,k b ob q⟩,fun _ _ _ n _=>n,fun b ob q _=>⟨ob,k b ob q⟩,fun _ _ q=>q,fun _ _ _ q=>q,fun _ ps q=>⟨#[],by rw [q];simp⟩⟩
theorem Un.refl:Un fs ex H H h h:=Un.kept fun _ _ q=>q
theorem Un.laid(k:∀b u,h.get? b=some u→h'.get? b=some u)(hp:h.objs.size≤a)(hn:H a=none):Un fs ex H (upd H a o) h h' where
 keep:=fun b u q _ _ _=>k b u q
 slot:=fun b u q _ _ _=>⟨u.slots,k b u q⟩
 free:=fun b u q n _=>by rw [b_1 (Nat.ne_of_lt (Nat.lt_of_lt_of_le (Heap.lt_size q) hp))];exact n
 there:=fun b u q _=>⟨u,k b u q⟩
 tups:=fun b xs q=>by rw [b_1 (c_2 q hn)];exact q
 frzs:=fun b u xs q=>by rw [b_1 (c_2 q hn)];exact q
 tbls:=fun b ps q=>⟨#[],by rw [b_1 (c_2 q hn),q];simp⟩
theorem Un.write(mu:Mut (H x))(he:e=x∨H e=some (.own x))(k:∀b u,b≠e→h.get? b=some u→h'.get? b=some u)(heo:∃u,h'.get? e=some u):Un fs ex H (upd H x o) h h':=by
 have hx:∀b,H b=none→b≠x:=fun b n z=>by subst z;rw [n] at mu;exact mu
 have hb:∀b,H b=none→b≠e:=fun b n z=>by
  subst z;rcases he with r|r
  ·exact hx b n r
  ·rw [n] at r;cases r
 have hm:∀b u,H b=some u→¬Mut (some u)→b≠x:=fun b u q nm z=>by subst z;rw [q] at mu;exact nm mu
 refine⟨fun b u q n _ _=>k b u (hb b n) q,fun b u q n _ _=>⟨u.slots,k b u (hb b n) q⟩,fun b u q n _=>by rw [b_1 (hx b n)];exact n,fun b u q _=> ?_,
  fun b xs q=>by rw [b_1 (hm b _ q fun z=>z)];exact q,fun b u xs q=>by rw [b_1 (hm b _ q fun z=>z)];exact q,fun b ps q=>⟨#[],by rw [b_1 (hm b _ q fun z=>z),q];simp⟩⟩
 by_cases hbe:b=e
 ·subst hbe;exact heo
 ·exact⟨u,k b u hbe q⟩
end
def trk(h:Heap)(H:Hp):List Addr:=(List.range h.objs.size).filter fun a=>(H a).isSome
def hidT(h:Heap)(H:Hp):Heap:=hideAll h (trk h H)
theorem bu_5(h:Heap)(H:Hp):(hidT h H).objs.size=h.objs.size:=hideAll_size _ _
theorem bz_8{h:Heap}{H:Hp}{b:Addr}{o:Obj}(e:h.get? b=some o)(n:H b=none):(hidT h H).get? b=some o:=
 hideAll_get _ e fun hm=>by
  have q:(H b).isSome=true:=(List.mem_filter.mp hm).2;rw [n] at q;simp at q
theorem ci_6{h:Heap}{H:Hp}{b:Addr}{o:Obj}(e:(hidT h H).get? b=some o):h.get? b=some o∧H b=none:=by
 have e':h.get? b=some o:=of_hideAll (trk h H) e;refine⟨e', ?_⟩;cases q:H b with
 |none=>rfl
 |some x=>
  have hm:b∈trk h H:=List.mem_filter.mpr ⟨List.mem_range.mpr (Heap.lt_size e'),by simp [q]⟩;have z:(hidT h H).get? b=none:=hideAll_none (trk h H) hm;rw [z] at e;cases e
def ci_7(g h:Heap)(L:Addr):List (Addr×Obj):=(List.range h.objs.size).filterMap fun a=>if a=L∨(g.get? a).isSome=true then none else(h.get? a).map fun o=>(a,o)
def x_3(g h:Heap)(L d:Addr):List (Addr×Obj):=(ci_7 g h L).filter fun p=>decide (p.1≠d)
structure Mod(K:Frag)(mg:Str→Option Value)(base:Heap):Prop where
 kin:K.In base
 glob:base.Ns mainGlobals mg
 blt:∃mb,base.Ns builtinsNs mb∧∀x:Str,x≠ "__name__" →mb x=bootBuiltins x
 nolimit:base.NoLimit
structure Cx where
 prog:Program
 w:World
 K:Frag
 mg:Str→Option Value
 base:Heap
 A:Around
 N:List Str
 s₀:Shared
 H₀:Hp
 env:Env
 outer:List Env
 stack:List Env
 ex:List Addr
 fn:Str→Bool
 calm:Bool
 pn:List (Addr×Obj)
 xe:Value→Shared→Prop
def frs(l:List Env):List Addr:=l.filterMap (·.frame)
abbrev Cx.fs(X:Cx):List Addr:=frs X.outer
def Vis(sc:Scope)(x:Str):Prop:=sc.names.lookup x=some .local∨sc.names.lookup x=some .cell∨sc.names.lookup x=some .free
def Loc(sc:Scope)(x:Str):Prop:=sc.names.lookup x=some .local∨sc.names.lookup x=some .cell
def Look(env:Env)(h:Heap)(m:Str→Option Value)(x:Str)(u:Value):Prop:=
 (env.kindOf x=some .local∧m x=some u)∨((env.kindOf x=some .cell∨env.kindOf x=some .free)∧∃c,env.cells.lookup x=some c∧h.IsCell c (some u))
structure Cx.Ok(X:Cx):Prop where
 mod:Mod X.K X.mg X.base
 kind:X.env.scope.kind= .function
 glob:X.env.globals=mainGlobals
 blt:X.env.builtins=builtinsNs
 above:X.s₀.heap.objs.size≤X.env.locals
 inj:∀x y c,X.env.cells.lookup x=some c→X.env.cells.lookup y=some c→x=y
 has:∀x,(X.env.kindOf x=some .cell∨X.env.kindOf x=some .free)→∃c,X.env.cells.lookup x=some c
 cab:∀x c,X.fn x=true→X.env.cells.lookup x=some c→X.s₀.heap.objs.size≤c
 hd:X.calm=true→X.A.handled=none
 frames:X.A.frames=some X.stack
 stk:X.stack=X.outer∨(X.stack=X.env::X.outer∧X.env.frame=some X.env.locals)
 exf:∀b∈X.ex,b≠X.env.locals∧∀x c,X.env.cells.lookup x=some c→c≠b
 bs:∀b o,X.base.get? b=some o→X.s₀.heap.get? b=some o∧X.H₀ b=none
 bsz:X.base.objs.size≤X.s₀.heap.objs.size
 noex:∀b o,X.base.get? b=some o→b∉X.ex
 exfs:∀b∈X.ex,b∉X.fs
 funs:X.s₀.heap.FunFrames X.base X.outer
 frf:∀b∈X.fs,X.H₀ b=none
structure Inv(X:Cx)(zd:List (Addr×Obj))(σ:List (Option V))(H:Hp)(s:Shared):Prop where
 ok:X.Ok
 os:s.os=X.s₀.os
 bare:AllBare s.gens
 base:Un X.fs X.ex X.H₀ H X.s₀.heap s.heap
 loc:∃m,s.heap.Ns X.env.locals m∧∀(i:Nat) (x:Str) (v:V),X.N[i]? =some x→σ[i]? =some (some v)→Vis X.env.scope x→∃u,RelV v u∧Look X.env s.heap m x u
 cell:∀x c,X.env.cells.lookup x=some c→∃v,s.heap.IsCell c v
 free:H X.env.locals=none
 freeC:∀x c,X.env.cells.lookup x=some c→H c=none
 pin:∀p∈X.pn ++ zd,s.heap.get? p.1=some p.2∧H p.1=none∧p.1≠X.env.locals∧p.1∉X.fs∧∀v,p.2.data≠ .cell v
 hok:HOk X.prog X.w H s.heap
 len:σ.length=X.N.length
section
variable{X:Cx}{zd:List (Addr×Obj)}{σ:List (Option V)}{H H':Hp}{s:Shared}{h':Heap}
theorem Cx.Ok.nofr(ok:X.Ok){b:Addr}{o:Obj}(e:X.base.get? b=some o):b∉X.fs:=fun hb=>by
 have:=(ok.funs.mem hb).1;rw [e] at this;cases this
theorem Inv.bs(I:Inv X zd σ H s):∀b o,X.base.get? b=some o→s.heap.get? b=some o∧H b=none:=fun b o e=>
 ⟨I.base.keep b o (I.ok.bs b o e).1 (I.ok.bs b o e).2 (I.ok.nofr e) (I.ok.noex b o e),I.base.free b o (I.ok.bs b o e).1 (I.ok.bs b o e).2 (I.ok.noex b o e)⟩
theorem Inv.bk(I:Inv X zd σ H s):∀b o,X.base.get? b=some o→s.heap.get? b=some o:=fun b o e=>(I.bs b o e).1
theorem Inv.mod(I:Inv X zd σ H s):Mod X.K X.mg X.base:=I.ok.mod
theorem Inv.kIn(I:Inv X zd σ H s):X.K.In s.heap:=I.ok.mod.kin.keeps I.bk
theorem Inv.nolimit(I:Inv X zd σ H s):s.heap.NoLimit:=I.ok.mod.nolimit.keeps I.bk
theorem Inv.fr(I:Inv X zd σ H s):∃m,Fr X.base X.env.locals s.heap m:=
 let⟨m,hn,_⟩:=I.loc
 ⟨m,hn,I.bk,Nat.le_trans I.ok.bsz I.ok.above⟩
theorem Inv.lt(I:Inv X zd σ H s):X.env.locals < s.heap.objs.size:=let⟨_,hn,_⟩:=I.loc;hn.lt
theorem Inv.sz(I:Inv X zd σ H s):X.s₀.heap.objs.size≤s.heap.objs.size:=Nat.le_trans I.ok.above (Nat.le_of_lt I.lt)
theorem Inv.nofs(I:Inv X zd σ H s){a:Addr}(h:s.heap.objs.size≤a):a∉X.fs:=fun hb=>by
 obtain⟨_,o,ho,_⟩:=I.ok.funs.mem hb;exact absurd (Nat.lt_of_lt_of_le (Heap.lt_size ho) (Nat.le_trans I.sz h)) (Nat.lt_irrefl _)
theorem Inv.cne(I:Inv X zd σ H s):∀x c,X.env.cells.lookup x=some c→c≠X.env.locals:=fun x c e z=>by
 obtain⟨v,o,ho,hd⟩:=I.cell x c e;obtain⟨m,⟨o',es,ep,ho',hd',_⟩,_⟩:=I.loc;rw [z,ho'] at ho;cases ho;rw [hd'] at hd;cases hd
theorem Inv.funs(I:Inv X zd σ H s):s.heap.FunFrames X.base X.outer:=by
 have all:∀(l:List Env),(∀b∈frs l,b∈X.fs)→X.s₀.heap.FunFrames X.base l→s.heap.FunFrames X.base l:=by
  intro l
  induction l with
  |nil=>intro _ _;trivial
  |cons env r ih=>
   intro hs hl;obtain⟨hk,⟨L,o,hf,hn,ho,hd⟩,hr⟩:=hl;have hL:L∈X.fs:=hs L (by unfold frs;rw [List.filterMap_cons,hf];exact List.mem_cons_self);obtain⟨sl,e⟩:=I.base.slot L o ho (I.ok.frf L hL) hL fun z=>I.ok.exfs L z hL;exact⟨hk,⟨L,_,hf,hn,e,hd⟩,ih (fun b hb=>hs b (by unfold frs;rw [List.filterMap_cons,hf];exact List.mem_cons_of_mem _ hb)) hr⟩
 exact all X.outer (fun _ hb=>hb) I.ok.funs
theorem Inv.stack(I:Inv X zd σ H s):s.heap.FunFrames X.base X.stack:=by
 rcases I.ok.stk with e|⟨e,hf⟩
 ·rw [e];exact I.funs
 ·rw [e];obtain⟨m,hn,_⟩:=I.loc;refine .cons (by rw [I.ok.kind];decide) hf hn ?_ I.funs;exact Heap.get?_none_of_le (Nat.le_trans I.ok.bsz I.ok.above)
theorem Inv.stkSub(I:Inv X zd σ H s):∀b∈frs X.stack,b∈X.env.locals::X.fs:=fun b hb=>by
 rcases I.ok.stk with e|⟨e,hf⟩
 ·rw [e] at hb;exact List.mem_cons_of_mem _ hb
 ·rw [e] at hb;unfold frs at hb;rw [List.filterMap_cons,hf] at hb;exact hb
theorem Inv.stkFree(I:Inv X zd σ H s):∀b∈frs X.stack,H b=none:=fun b hb=>by
 rcases List.mem_cons.mp (I.stkSub b hb) with e|hb
 ·rw [e];exact I.free
 ·obtain⟨_,o,ho,_⟩:=I.ok.funs.mem hb;exact I.base.free b o ho (I.ok.frf b hb) fun z=>I.ok.exfs b z hb
theorem Inv.step{g':Array GenState}{t':Nat}{d':Drawn}{ch:List Addr}(I:Inv X zd σ H s)
  (hch:∀b∈ch,(b∈X.ex∨X.s₀.heap.objs.size≤b)∧b≠X.env.locals∧(∀x c,X.env.cells.lookup x=some c→c≠b)∧∀p∈X.pn ++ zd,p.1≠b)
  (keep:∀b o,b≠X.env.locals→b∉X.fs→b∉ch→s.heap.get? b=some o→H b=none→h'.get? b=some o)
  (slot:∀b o,b≠X.env.locals→b∈X.fs→b∉ch→s.heap.get? b=some o→H b=none→∃sl,h'.get? b=some {o with slots:=sl}) (free:∀b o,b∉ch→s.heap.get? b=some o→H b=none→H' b=none)
  (there:∀b o,b∉ch→s.heap.get? b=some o→∃o',h'.get? b=some o')
  (tups:∀b xs,H b=some (.tup xs)→H' b=some (.tup xs)) (frzs:∀b o u,H b=some (.frz o u)→H' b=some (.frz o u)) (tbls:∀b ps,H b=some (.tbl ps)→∃more,H' b=some (.tbl (ps ++ more)))
  (ns:∀m,s.heap.Ns X.env.locals m→h'.Ns X.env.locals m) (hok:HOk X.prog X.w H' h') (hg:AllBare g'):
  Inv X zd σ H' {s with heap:=h',gens:=g',drawn:=d',toks:=t'}:=by
 have neL:∀b o,X.s₀.heap.get? b=some o→b≠X.env.locals:=fun b o e=>Nat.ne_of_lt (Nat.lt_of_lt_of_le (Heap.lt_size e) I.ok.above);have neC:∀b o,X.s₀.heap.get? b=some o→b∉X.ex→b∉ch:=fun b o e hx hb=>by
  rcases(hch b hb).1 with z|z
  ·exact hx z
  ·exact absurd (Nat.lt_of_lt_of_le (Heap.lt_size e) z) (Nat.lt_irrefl _)
 have cellK:∀x c,X.env.cells.lookup x=some c→∀v,s.heap.IsCell c v→h'.IsCell c v:=fun x c e v ⟨o,ho,hd⟩=>by
  have nch:c∉ch:=fun z=>(hch c z).2.2.1 x c e rfl
  by_cases hc:c∈X.fs
  ·obtain⟨sl,q⟩:=slot c o (I.cne x c e) hc nch ho (I.freeC x c e);exact⟨_,q,hd⟩
  ·exact⟨o,keep c o (I.cne x c e) hc nch ho (I.freeC x c e),hd⟩
 refine⟨I.ok,I.os,hg,⟨fun b o e n hb hx=> ?_,fun b o e n hb hx=> ?_,fun b o e n hx=> ?_,fun b o e hx=> ?_,fun b xs e=>tups b xs (I.base.tups b xs e),fun b o xs e=>frzs b o xs (I.base.frzs b o xs e),fun b ps e=> ?_⟩, ?_,fun x c e=> ?_, ?_,fun x c e=> ?_,fun p hp=> ?_,hok,I.len⟩
 ·exact keep b o (neL b o e) hb (neC b o e hx) (I.base.keep b o e n hb hx) (I.base.free b o e n hx)
 ·obtain⟨sl,e1⟩:=I.base.slot b o e n hb hx;obtain⟨sl',e2⟩:=slot b _ (neL b o e) hb (neC b o e hx) e1 (I.base.free b o e n hx);exact⟨sl',e2⟩
 ·obtain⟨o',e1⟩:=I.base.there b o e hx;exact free b o' (neC b o e hx) e1 (I.base.free b o e n hx)
 ·obtain⟨o',e1⟩:=I.base.there b o e hx;exact there b o' (neC b o e hx) e1
 ·obtain⟨m1,e1⟩:=I.base.tbls b ps e;obtain⟨m2,e2⟩:=tbls b _ e1;exact⟨m1 ++ m2,by rw [e2,Array.append_assoc]⟩
 ·obtain⟨m,hn,hl⟩:=I.loc;refine⟨m,ns m hn,fun i x v e1 e2 e3=> ?_⟩;obtain⟨u,r,l⟩:=hl i x v e1 e2 e3;refine⟨u,r, ?_⟩;rcases l with l|⟨k,c,e,z⟩
  ·exact .inl l
  ·exact .inr ⟨k,c,e,cellK x c e _ z⟩
 ·obtain⟨v,z⟩:=I.cell x c e;exact⟨v,cellK x c e v z⟩
 ·obtain⟨m,⟨o,_,_,ho,_⟩,_⟩:=I.loc;exact free _ o (fun z=>(hch _ z).2.1 rfl) ho I.free
 ·obtain⟨v,o,ho,hd⟩:=I.cell x c e;exact free c o (fun z=>(hch c z).2.2.1 x c e rfl) ho (I.freeC x c e)
 ·obtain⟨e,n,ne,nf,d⟩:=I.pin p hp;have nch:p.1∉ch:=fun z=>(hch p.1 z).2.2.2 p hp rfl;exact⟨keep p.1 p.2 ne nf nch e n,free p.1 p.2 nch e n,ne,nf,d⟩
theorem Inv.un{t':Nat}(I:Inv X zd σ H s)(u:Un X.fs [] H H' s.heap h')(hok:HOk X.prog X.w H' h'):Inv X zd σ H' {s with heap:=h',toks:=t'}:=by
 obtain⟨m,⟨o,es,ep,ho,r⟩,_⟩:=id I.loc;obtain⟨sl,hL⟩:=u.any ho I.free (by simp);exact I.step (g':=s.gens) (d':=s.drawn) (ch:= []) (fun _ z=>nomatch z) (fun b o _ hb _ e n=>u.keep b o e n hb (by simp)) (fun b o _ hb _ e n=>u.slot b o e n hb (by simp)) (fun b o _ e n=>u.free b o e n (by simp)) (fun b o _ e=>u.there b o e (by simp)) u.tups u.frzs u.tbls (fun m' hm=>by
  obtain⟨o',es',ep',ho',r'⟩:=hm;rw [ho] at ho';cases ho';exact⟨_,es',ep',hL,r'⟩) hok I.bare
theorem Inv.call{g':Array GenState}{t':Nat}{d':Drawn}{ch:List Addr}(I:Inv X zd σ H s)(u:Un (frs X.stack) ch H H' s.heap h')(hok:HOk X.prog X.w H' h')(hg:AllBare g')
  (hch:∀b∈ch,(b∈X.ex∨X.s₀.heap.objs.size≤b)∧b≠X.env.locals∧(∀x c,X.env.cells.lookup x=some c→c≠b)∧∀p∈X.pn ++ zd,p.1≠b):
  Inv X zd σ H' {s with heap:=h',gens:=g',drawn:=d',toks:=t'}:=by
 obtain⟨m,⟨o,es,ep,ho,r⟩,_⟩:=id I.loc;obtain⟨sl,hL⟩:=u.any ho I.free fun z=>(hch _ z).2.1 rfl;exact I.step (ch:=ch) hch (fun b o hL hb hc e n=>u.keep b o e n (fun z=>(List.mem_cons.mp (I.stkSub b z)).elim hL hb) hc) (fun b o _ _ hc e n=>u.any e n hc) (fun b o hc e n=>u.free b o e n hc) (fun b o hc e=>u.there b o e hc) u.tups u.frzs u.tbls (fun m' hm=>by
  obtain⟨o',es',ep',ho',r'⟩:=hm;rw [ho] at ho';cases ho';exact⟨_,es',ep',hL,r'⟩) hok hg
theorem Inv.turned{t':Nat}{it:Addr}(I:Inv X zd σ H s)(k:∀b o,b≠it→s.heap.get? b=some o→h'.get? b=some o)(hn:H it=none)(hL:it≠X.env.locals)
  (h1:it∈X.ex∨X.s₀.heap.objs.size≤it) (h2:∀x c,X.env.cells.lookup x=some c→c≠it) (h3:∀p∈X.pn ++ zd,p.1≠it):Inv X zd σ H {s with heap:=h',toks:=t'}:=by
 have nit:∀b u,H b=some u→b≠it:=fun b u e z=>by rw [z,hn] at e;cases e
 refine I.step (g':=s.gens) (d':=s.drawn) (ch:= [it]) (fun b hb=> ?_) (fun b o _ _ hc e _=>k b o (fun z=>hc (by simp [z])) e) (fun b o _ _ hc e _=>⟨o.slots,k b o (fun z=>hc (by simp [z])) e⟩) (fun _ _ _ _ n=>n)
  (fun b o hc e=>⟨o,k b o (fun z=>hc (by simp [z])) e⟩) (fun _ _ e=>e) (fun _ _ _ e=>e) (fun b ps e=>⟨#[],by rw [e];simp⟩) (fun m hm=> ?_) (fun b u e=> ?_) I.bare
 ·have e:b=it:=by simpa using hb
  subst e;exact⟨h1,hL,h2,h3⟩
 ·obtain⟨o,es,ep,ho,r⟩:=hm;exact⟨o,es,ep,k _ o (Ne.symm hL) ho,r⟩
 ·refine(I.hok b u e).stay (fun c v hc q=>k c v ?_ q) (fun _ q=>q) fun _ _ q=>q;rcases hc with z|z
  ·rw [z];exact nit b u e
  ·exact nit c _ z
theorem Inv.tok(I:Inv X zd σ H s)(t:Nat):Inv X zd σ H {s with toks:=t}:=I.un (h':=s.heap) (t':=t) Un.refl I.hok
theorem Inv.kept{t':Nat}(I:Inv X zd σ H s)(k:∀b u,s.heap.get? b=some u→h'.get? b=some u):Inv X zd σ H {s with heap:=h',toks:=t'}:=I.un (Un.kept k) (I.hok.kept k)
theorem Inv.laid{a:Addr}{o:HO}{t':Nat}(I:Inv X zd σ H s)(k:∀b u,s.heap.get? b=some u→h'.get? b=some u)(hp:s.heap.objs.size≤a)(new:ObjOk X.prog X.w (upd H a o) h' a o):
  Inv X zd σ (upd H a o) {s with heap:=h',toks:=t'}:=I.un (Un.laid k hp (I.hok.fresh hp)) (I.hok.laid k hp new)
theorem Inv.write{x e:Addr}{o:HO}{t':Nat}(I:Inv X zd σ H s)(mu:Mut (H x))(he:e=x∨H e=some (.own x))(k:∀b u,b≠e→s.heap.get? b=some u→h'.get? b=some u)(heo:∃u,h'.get? e=some u)
  (new:ObjOk X.prog X.w (upd H x o) h' x o):Inv X zd σ (upd H x o) {s with heap:=h',toks:=t'}:=I.un (Un.write mu he k heo) (I.hok.write mu he k heo new)
theorem Inv.pins_of{ai:List (Addr×Obj)}(I:Inv X zd σ H s)(h:∀p∈ai,s.heap.get? p.1=some p.2∧H p.1=none∧p.1≠X.env.locals∧p.1∉X.fs∧∀v,p.2.data≠ .cell v):Inv X ai σ H s:=
 ⟨I.ok,I.os,I.bare,I.base,I.loc,I.cell,I.free,I.freeC,fun p hp=>(List.mem_append.mp hp).elim (fun z=>I.pin p (List.mem_append_left _ z)) (h p),I.hok,I.len⟩
theorem am_9{N:List Str}(hN:N.Nodup){i j:Nat}{x:Str}(a:N[i]? =some x)(b:N[j]? =some x):i=j:=by
 obtain⟨h1,e1⟩:=List.getElem?_eq_some_iff.mp a;obtain⟨h2,e2⟩:=List.getElem?_eq_some_iff.mp b;exact(List.getElem_inj hN).mp (e1.trans e2.symm)
theorem bu_6{M:Model}{A:Around}{E:Value→Shared→Prop}{i:Nat}{x:Str}{v:V}{u:Value}{Q:Unit→Shared→Prop}(I:Inv X zd σ H s)(hN:X.N.Nodup)(hi:X.N[i]? =some x)(hx:Loc X.env.scope x)(r:RelV v u)
  (h:∀s',Inv X zd (σ.set i (some v)) H s'→(∃a,Heap.SameBut a s.heap s'.heap∧(a=X.env.locals∨X.env.cells.lookup x=some a))→Q () s') (hf:X.fn x=true∨X.env.scope.names.lookup x=some .local:=by first|exact .inl rfl|exact .inr rfl|assumption):wpAny M A (storeName X.env x u) Q E s:=by
 obtain⟨m,hn,hl⟩:=id I.loc;have bq:(X.env.scope.kind == .class || (X.env.scope.kind == .module && X.env.locals != X.env.globals))=false:=by rw [I.ok.kind];rfl
 have hiσ:i < σ.length:=by rw [I.len];exact(List.getElem?_eq_some_iff.mp hi).1
 have cne:=I.cne;have tracked:∀{a:Addr} {h':Heap},(∃o,s.heap.get? a=some o∧H a=none)→Heap.SameBut a s.heap h'→HOk X.prog X.w H h':=fun{a h'} ha hs b ob e=>by
  obtain⟨_,_,aj⟩:=ha;refine(I.hok b ob e).stay (fun c w' hc q=>(hs.2 c ?_).trans q) (fun _ q=>q) fun _ _ q=>q
  rintro rfl
  rcases hc with rfl|hc
  ·rw [aj] at e;cases e
  ·rw [aj] at hc;cases hc
 rcases hx with hk|hk
 ·refine wpAny_storeName_local hk hn (fun h' hn' hs=> ?_) bq;obtain⟨oL,_,_,hoL,_⟩:=id hn;refine h _ ⟨I.ok,I.os,I.bare,⟨fun b o e n hb hx=> ?_,fun b o e n hb hx=> ?_,I.base.free,fun b o e hx=> ?_,I.base.tups,I.base.frzs,I.base.tbls⟩,⟨_,hn',fun j y v' e1 e2 e3=> ?_⟩,fun y c e=> ?_,I.free,I.freeC,fun p hp=> ?_,tracked ⟨oL,hoL,I.free⟩ hs,by simpa using I.len⟩ ⟨_,hs, .inl rfl⟩
  ·exact(hs.2 b (Nat.ne_of_lt (Nat.lt_of_lt_of_le (Heap.lt_size e) I.ok.above))).trans (I.base.keep b o e n hb hx)
  ·obtain⟨sl,e1⟩:=I.base.slot b o e n hb hx;exact⟨sl,(hs.2 b (Nat.ne_of_lt (Nat.lt_of_lt_of_le (Heap.lt_size e) I.ok.above))).trans e1⟩
  ·obtain⟨o',e1⟩:=I.base.there b o e hx;exact⟨o',(hs.2 b (Nat.ne_of_lt (Nat.lt_of_lt_of_le (Heap.lt_size e) I.ok.above))).trans e1⟩
  ·by_cases hj:j=i
   ·subst hj;rw [hi] at e1;cases e1;rw [List.getElem?_set_self hiσ] at e2;cases e2;exact⟨u,r, .inl ⟨hk,by simp⟩⟩
   ·rw [List.getElem?_set_ne (Ne.symm hj)] at e2;obtain⟨u',r',q⟩:=hl j y v' e1 e2 e3;refine⟨u',r', ?_⟩;rcases q with⟨k,e⟩|⟨k,c,e,z⟩
    ·refine .inl ⟨k, ?_⟩;have:y≠x:=fun e=>hj (am_9 hN e1 (e▸hi));simp [this,e]
    ·exact .inr ⟨k,c,e,z.sameBut hs (cne y c e)⟩
  ·obtain⟨w',z⟩:=I.cell y c e;exact⟨w',z.sameBut hs (cne y c e)⟩
  ·obtain⟨e,n,ne,nf,d⟩:=I.pin p hp;exact⟨(hs.2 p.1 ne).trans e,n,ne,nf,d⟩
 ·have hfn:X.fn x=true:=by
   rcases hf with z|z
   ·exact z
   ·rw [z] at hk;cases hk
  obtain⟨c,hc⟩:=I.ok.has x (.inl hk);obtain⟨w',z⟩:=I.cell x c hc;refine wpAny_storeName_cell I.ok.kind hk hc z (fun h' hc' hs=> ?_);obtain⟨oc,hoc,dh⟩:=id z;refine h {s with heap:=h'} ⟨I.ok,I.os,I.bare,⟨fun b o e n hb hx=> ?_,fun b o e n hb hx=> ?_,I.base.free,fun b o e hx=> ?_,I.base.tups,I.base.frzs,I.base.tbls⟩,⟨m,hn.sameBut hs (Ne.symm (cne x c hc)),fun j y v' e1 e2 e3=> ?_⟩,fun y c' e=> ?_,I.free,I.freeC,fun p hp=> ?_,tracked ⟨oc,hoc,I.freeC x c hc⟩ hs,by simpa using I.len⟩ ⟨c,hs, .inr hc⟩
  ·exact(hs.2 b (Nat.ne_of_lt (Nat.lt_of_lt_of_le (Heap.lt_size e) (I.ok.cab x c hfn hc)))).trans (I.base.keep b o e n hb hx)
  ·obtain⟨sl,e1⟩:=I.base.slot b o e n hb hx;exact⟨sl,(hs.2 b (Nat.ne_of_lt (Nat.lt_of_lt_of_le (Heap.lt_size e) (I.ok.cab x c hfn hc)))).trans e1⟩
  ·obtain⟨o',e1⟩:=I.base.there b o e hx;exact⟨o',(hs.2 b (Nat.ne_of_lt (Nat.lt_of_lt_of_le (Heap.lt_size e) (I.ok.cab x c hfn hc)))).trans e1⟩
  ·by_cases hj:j=i
   ·subst hj;rw [hi] at e1;cases e1;rw [List.getElem?_set_self hiσ] at e2;cases e2;exact⟨u,r, .inr ⟨.inl hk,c,hc,hc'⟩⟩
   ·rw [List.getElem?_set_ne (Ne.symm hj)] at e2;obtain⟨u',r',q⟩:=hl j y v' e1 e2 e3;refine⟨u',r', ?_⟩;rcases q with q|⟨k,c',e,z'⟩
    ·exact .inl q
    ·refine .inr ⟨k,c',e,z'.sameBut hs ?_⟩
     rintro rfl
     exact hj (am_9 hN e1 (I.ok.inj _ _ _ e hc▸hi))
  ·by_cases hcc:c'=c
   ·subst hcc;exact⟨_,hc'⟩
   ·obtain⟨w2,z2⟩:=I.cell y c' e;exact⟨w2,z2.sameBut hs hcc⟩
  ·obtain⟨e,n,ne,nf,d⟩:=I.pin p hp;refine⟨(hs.2 p.1 ?_).trans e,n,ne,nf,d⟩;intro q;rw [q,hoc] at e;have q':oc=p.2:=Option.some.inj e;exact d w' (by rw [←q'];exact dh)
theorem an_0{M:Model}{A:Around}{E:Value→Shared→Prop}{i:Nat}{x:Str}{v:V}{u:Value}{Q:Unit→Shared→Prop}(I:Inv X zd σ H s)(hN:X.N.Nodup)(hi:X.N[i]? =some x)(hx:Loc X.env.scope x)(r:RelV v u)
  (h:∀s',Inv X zd (σ.set i (some v)) H s'→Q () s') (hf:X.fn x=true∨X.env.scope.names.lookup x=some .local:=by first|exact .inl rfl|exact .inr rfl|assumption):wpAny M A (storeName X.env x u) Q E s:=
 bu_6 I hN hi hx r (fun s' I' _=>h s' I') hf
theorem Inv.call'{s':Shared}{ch:List Addr}(I:Inv X zd σ H s)(ho:s'.os=s.os)(u:Un (frs X.stack) ch H H' s.heap s'.heap)(hok:HOk X.prog X.w H' s'.heap)(hg:AllBare s'.gens)
  (hch:∀b∈ch,(b∈X.ex∨X.s₀.heap.objs.size≤b)∧b≠X.env.locals∧(∀x c,X.env.cells.lookup x=some c→c≠b)∧∀p∈X.pn ++ zd,p.1≠b):Inv X zd σ H' s':=by
 obtain⟨h',g',d',t',o'⟩:=s';have e:o'=s.os:=ho;subst e;exact I.call (g':=g') (t':=t') (d':=d') u hok hg hch
end
abbrev XK:=Value→Option Addr→Hp→Prop
abbrev St:=List (Option V)
abbrev VK:=V→Hp→Prop
abbrev TE:=St→Hp→VK→Prop
abbrev TT:=St→Hp→(Bool→Hp→Prop)→Prop
abbrev TA:=St→Hp→(List V→Hp→Prop)→Prop
structure Ends where
 nx:St→Hp→Prop
 rt:VK
 bk:St→Hp→Prop:=fun _ _=>False
 ct:St→Hp→Prop:=fun _ _=>False
abbrev TS:=Ends→St→Hp→Prop
def EP(X:Cx)(zd:List (Addr×Obj))(σ:St)(Q:VK)(u:Value)(s':Shared):Prop:=∃v H',Inv X zd σ H' s'∧RelV v u∧Q v H'
def TP(X:Cx)(zd:List (Addr×Obj))(σ:St)(Q:Bool→Hp→Prop)(b:Bool)(s':Shared):Prop:=∃H',Inv X zd σ H' s'∧Q b H'
def AP(X:Cx)(zd:List (Addr×Obj))(σ:St)(Q:List V→Hp→Prop)(us:List Value)(s':Shared):Prop:=∃vs H',Inv X zd σ H' s'∧Vals vs us∧Q vs H'
def SP(X:Cx)(zd:List (Addr×Obj))(D:Ends)(f:Flow)(s':Shared):Prop:=
 match f with
 | .next=>∃σ' H',Inv X zd σ' H' s'∧D.nx σ' H'
 | .brk=>∃σ' H',Inv X zd σ' H' s'∧D.bk σ' H'
 | .cont=>∃σ' H',Inv X zd σ' H' s'∧D.ct σ' H'
 | .ret u=>∃v σ' H',Inv X zd σ' H' s'∧RelV v u∧D.rt v H'
def PE(X:Cx)(e:Expr)(t:TE):Prop:=
 ∀(zd:List (Addr×Obj)) (s:Shared) (σ:St) (H:Hp) (Q:VK),Inv X zd σ H s→t σ H Q→wpAny (model X.prog X.w) X.A (eval e X.env) (EP X zd σ Q) X.xe s
def PT(X:Cx)(e:Expr)(t:TT):Prop:=
 ∀(zd:List (Addr×Obj)) (s:Shared) (σ:St) (H:Hp) (Q:Bool→Hp→Prop),Inv X zd σ H s→t σ H Q→wpAny (model X.prog X.w) X.A (isTrue e X.env (eval e X.env)) (TP X zd σ Q) X.xe s
def PW(X:Cx)(e:Expr)(t:TT):Prop:=
 ∀(whole:Sem Value) (zd:List (Addr×Obj)) (s:Shared) (σ:St) (H:Hp) (Q:Bool→Hp→Prop),Inv X zd σ H s→t σ H Q→wpAny (model X.prog X.w) X.A (isTrue e X.env whole) (TP X zd σ Q) X.xe s
theorem PW.pt{X:Cx}{e:Expr}{t:TT}(h:PW X e t):PT X e t:=h _
def PA(X:Cx)(es:List Expr)(t:TA):Prop:=
 ∀(pos:Pos) (zd:List (Addr×Obj)) (s:Shared) (σ:St) (H:Hp) (Q:List V→Hp→Prop),Inv X zd σ H s→t σ H Q→wpAny (model X.prog X.w) X.A (spliced (backTo pos (starEach es X.env))) (AP X zd σ Q) X.xe s
def PS(X:Cx)(st:Stmt)(t:TS):Prop:=
 ∀(zd:List (Addr×Obj)) (s:Shared) (σ:St) (H:Hp) (D:Ends),Inv X zd σ H s→t D σ H→wpAny (model X.prog X.w) X.A (exec st X.env) (SP X zd D) X.xe s
def PSs(X:Cx)(st:List Stmt)(t:TS):Prop:=
 ∀(zd:List (Addr×Obj)) (s:Shared) (σ:St) (H:Hp) (D:Ends),Inv X zd σ H s→t D σ H→wpAny (model X.prog X.w) X.A (execs st X.env) (SP X zd D) X.xe s
theorem thn{α:Type}{t:Sem α}{Q Q':α→Shared→Prop}{M:Model}{A:Around}{E:Value→Shared→Prop}{s:Shared}(h:wpAny M A t Q E s)(hQ:∀a s,Q a s→Q' a s):wpAny M A t Q' E s:=wpAny_mono h hQ fun _ _ x=>x
section
variable{X:Cx}
def tVar(i:Nat):TE:=fun σ H Q=>∃v,σ[i]? =some (some v)∧Q v H
def tC(v:V):TE:=fun _ H Q=>Q v H
theorem o_7{i:Nat}{x:Str}{pos:Pos}(hN:X.N[i]? =some x)(hv:Vis X.env.scope x)(hd:(x ==("__debug__" :Str))=false:=by decide)(hcd:(x ==("__classdict__" :Str))=false:=by decide):PE X (.Name x pos) (tVar i):=by
 intro zd s σ H Q I h;obtain⟨v,e,h⟩:=h;obtain⟨m,hn,hl⟩:=I.loc;obtain⟨u,r,l⟩:=hl i x v hN e hv;have fin:EP X zd σ Q u s:=⟨v,H,I,r,h⟩;rcases l with⟨hk,hm⟩|⟨hk,c,hc,hcell⟩
 ·exact wpAny_Name (wpAny_loadName_local I.ok.kind hk hn hm fin) hd
 ·rcases hk with hk|hk
  ·exact wpAny_Name (wpAny_loadName_cell I.ok.kind hk hc hcell fin) hd
  ·exact wpAny_Name (wpAny_loadName_free I.ok.kind hk hc hcell fin hcd) hd
theorem cr_1{i j pos}:PE X (.Constant (.int i) j pos) (tC (.int i)):=fun _ _ _ H _ I h=>wpAny_Constant_int ⟨.int i,H,I.tok _,⟨_,rfl⟩,h⟩
theorem cy_1{b j pos}:PE X (.Constant (.bool b) j pos) (tC (.bl b)):=fun _ _ _ H _ I h=>Constant_bool ⟨.bl b,H,I,rfl,h⟩
theorem cr_2{j pos}:PE X (.Constant .none j pos) (tC .non):=fun _ _ _ H _ I h=>Constant_none ⟨.non,H,I,rfl,h⟩
theorem cr_3{x j pos}:PE X (.Constant (.str x) j pos) (tC (.str x)):=fun _ _ _ H _ I h=>Calls.Constant_str ⟨.str x,H,I.tok _,⟨_,rfl⟩,h⟩
def Gl(X:Cx)(x:Str):Prop:=X.env.kindOf x=some .globalImplicit
theorem q_7{E:Value→Shared→Prop}{zd:List (Addr×Obj)}{s:Shared}{σ:St}{H:Hp}{x:Str}{u:Value}{pos:Pos}{Q:Value→Shared→Prop}(I:Inv X zd σ H s)(hg:Gl X x)(hm:X.mg x=some u)(h:Q u s)
  (hd:(x ==("__debug__" :Str))=false:=by decide):wpAny (model X.prog X.w) X.A (eval (.Name x pos) X.env) Q E s:=
 Calls.Name_function_global I.ok.kind hg (Calls.loadGlobal_global (by rw [I.ok.glob];exact I.mod.glob.keeps I.bk) hm h) hd
theorem v_4{E:Value→Shared→Prop}{zd:List (Addr×Obj)}{s:Shared}{σ:St}{H:Hp}{x:Str}{u:Value}{pos:Pos}{Q:Value→Shared→Prop}(I:Inv X zd σ H s)(hg:Gl X x)(hm:X.mg x=none)(hv:bootBuiltins x=some u)(h:Q u s)
  (hn:x≠ "__name__" :=by decide) (hd:(x ==("__debug__" :Str))=false:=by decide):wpAny (model X.prog X.w) X.A (eval (.Name x pos) X.env) Q E s:=by
 obtain⟨mb,h1,h2⟩:=I.mod.blt;exact Calls.Name_function_global I.ok.kind hg (Calls.loadGlobal_builtin (by rw [I.ok.glob];exact I.mod.glob.keeps I.bk) hm (by rw [I.ok.blt];exact h1.keeps I.bk) ((h2 x hn).trans hv) h) hd
theorem al_6{x:Str}{v:V}{u:Value}{pos:Pos}(hg:Gl X x)(hm:X.mg x=some u)(r:RelV v u)(hd:(x ==("__debug__" :Str))=false:=by decide):PE X (.Name x pos) (tC v):=
 fun _ _ _ H _ I h=>q_7 I hg hm ⟨v,H,I,r,h⟩ hd
theorem bp_2{x:Str}{v:V}{u:Value}{pos:Pos}(hg:Gl X x)(hm:X.mg x=none)(hv:bootBuiltins x=some u)(r:RelV v u)(hn:x≠ "__name__" :=by decide)(hd:(x ==("__debug__" :Str))=false:=by decide):PE X (.Name x pos) (tC v):=
 fun _ _ _ H _ I h=>v_4 I hg hm hv ⟨v,H,I,r,h⟩ hn hd
variable{a b:Expr}{ta tb:TE}{pos:Pos}
variable{tA tB':TT}{x_3:List Expr}
def tAnd(t u:TT):TT:=fun σ H Q=>t σ H fun c H1=>if c=true then u σ H1 Q else Q false H1
def tOr(t u:TT):TT:=fun σ H Q=>t σ H fun c H1=>if c=true then Q true H1 else u σ H1 Q
def tNot(t:TT):TT:=fun σ H Q=>t σ H fun c H1=>Q (!c) H1
theorem ci_8(ha:PT X a tA):PW X (.BoolOp .And [a] pos) tA:=by
 intro wh zd s σ H Q I h;refine isTrue_and (thn (ha zd s σ H Q I h) fun c s1 e=> ?_);cases c with
 |true=>exact isTrue_and_nil e
 |false=>exact e
theorem cr_4(ha:PT X a tA):PW X (.BoolOp .Or [a] pos) tA:=by
 intro wh zd s σ H Q I h;refine isTrue_or (thn (ha zd s σ H Q I h) fun c s1 e=> ?_);cases c with
 |false=>exact isTrue_or_nil e
 |true=>exact e
theorem cr_5(ha:PT X a tA)(hb:PW X (.BoolOp .And (b::x_3) pos) tB'):PW X (.BoolOp .And (a::b::x_3) pos) (tAnd tA tB'):=by
 intro wh zd s σ H Q I h;refine isTrue_and (thn (ha zd s σ H _ I h) fun c s1 ⟨H1,I1,q1⟩=> ?_);cases c with
 |true=>exact hb wh zd s1 σ H1 Q I1 q1
 |false=>exact⟨H1,I1,q1⟩
theorem cy_2(ha:PT X a tA)(hb:PW X (.BoolOp .Or (b::x_3) pos) tB'):PW X (.BoolOp .Or (a::b::x_3) pos) (tOr tA tB'):=by
 intro wh zd s σ H Q I h;refine isTrue_or (thn (ha zd s σ H _ I h) fun c s1 ⟨H1,I1,q1⟩=> ?_);cases c with
 |true=>exact⟨H1,I1,q1⟩
 |false=>exact hb wh zd s1 σ H1 Q I1 q1
theorem cr_6(ha:PT X a tA):PT X (.UnaryOp .Not a pos) (tNot tA):=by
 intro zd s σ H Q I h;exact isTrue_not (ha zd s σ H (fun c H1=>Q (!c) H1) I h)
def cy_3(ta tb:TE):TE:=fun σ H Q=>ta σ H fun x H1=>∃c,x= .bl c∧if c=true then tb σ H1 Q else Q (.bl false) H1
def cy_4(ta:TE):TE:=fun σ H Q=>ta σ H fun x H1=>∃c,x= .bl c∧Q (.bl (!c)) H1
theorem cr_7{op}{t:TE}(h:PE X a t):PE X (.BoolOp op [a] pos) t:=fun zd s σ H Q I hw=>BoolOp_one (h zd s σ H Q I hw)
theorem cr_8(ha:PE X a ta)(hb:PE X (.BoolOp .And (b::x_3) pos) tb):PE X (.BoolOp .And (a::b::x_3) pos) (cy_3 ta tb):=by
 intro zd s σ H Q I h;refine BoolOp_and (thn (ha zd s σ H _ I h) fun v s1 ⟨x,H1,I1,r1,q1⟩=> ?_);obtain⟨c,rfl,q1⟩:=q1;cases r1;refine wpAny_truthy_bool ?_;cases c with
 |true=>exact hb zd s1 σ H1 Q I1 q1
 |false=>exact⟨.bl false,H1,I1,rfl,q1⟩
theorem cr_9(ha:PE X a ta):PE X (.UnaryOp .Not a pos) (cy_4 ta):=by
 intro zd s σ H Q I h;refine UnaryOp_ (thn (ha zd s σ H _ I h) fun v s1 ⟨x,H1,I1,r1,q1⟩=> ?_);obtain⟨c,rfl,q1⟩:=q1;cases r1;exact not_of (wpAny_truthy_bool ⟨.bl (!c),H1,I1,rfl,q1⟩)
end
def SqL(K:Frag)(H:Hp)(a:Addr)(xs:List V):Prop:=
 Rd H a (.lst xs)∨
  ∃(o:Obj) (its:Array Value) (n:Nat),K.lookup a=some o∧o.cls= .type "list" ∧o.dict=none∧o.data= .seq its n∧its.size≤sizeLine∧Vals xs its.toList
def SqT(K:Frag)(H:Hp)(a:Addr)(xs:List V):Prop:=
 Rd H a (.tup xs)∨
  ∃(o:Obj) (its:Array Value) (n:Nat),K.lookup a=some o∧o.cls= .type "tuple" ∧o.data= .seq its n∧its.size≤sizeLine∧Vals xs its.toList
def absV:Value→Option V
 | .none=>some .non
 | .bool b=>some (.bl b)
 | .int i _=>some (.int i)
 | .str x _=>some (.str x)
 | .bytes b _=>some (.byt b)
 | .float b _=>some (.flt b)
 | .ref a=>some (.ref a)
 | .type n=>some (.ty n)
 |_=>none
theorem RelV.abs{x:V}{u:Value}(r:RelV x u):absV u=some x:=by
 cases x with
 |non=>cases r;rfl
 |bl _=>cases r;rfl
 |int _=>obtain⟨t,rfl⟩:=r;rfl
 |str _=>obtain⟨t,rfl⟩:=r;rfl
 |byt _=>obtain⟨t,rfl⟩:=r;rfl
 |flt _=>obtain⟨t,rfl⟩:=r;rfl
 |ref _=>cases r;rfl
 |ty _=>cases r;rfl
theorem RelV.inj{x y:V}{u:Value}(r:RelV x u)(q:RelV y u):x=y:=Option.some.inj (r.abs.symm.trans q.abs)
theorem Vals.inj:∀{xs ys:List V} {us:List Value},Vals xs us→Vals ys us→xs=ys
 |_,_,_, .nil, .nil=>rfl
 |_,_,_, .cons r t, .cons r' t'=>by rw [r.inj r',Vals.inj t t']
section
variable{X:Cx}{zd:List (Addr×Obj)}{σ:St}{H:Hp}{s:Shared}{a:Addr}{xs ys:List V}
theorem SqL.of{K:Frag}(h:H a=some (.lst xs)):SqL K H a xs:= .inl (.inl h)
theorem SqT.of{K:Frag}(h:H a=some (.tup xs)):SqT K H a xs:= .inl (.inl h)
theorem Inv.list(I:Inv X zd σ H s)(h:SqL X.K H a xs):∃its:List Value,Vals xs its∧PlainL s.heap a its.toArray∧xs.length≤sizeLine:=by
 rcases h with h|⟨o,its,n,hk,hc,hd,hs,hz,r⟩
 ·obtain⟨z,its,n,r,e⟩:=h.ok I.hok;exact⟨its,r,⟨_,n,e,rfl,rfl,rfl⟩,z⟩
 ·refine⟨its.toList,r,⟨o,n,I.kIn a o hk,hc,hd,by simpa using hs⟩, ?_⟩;have e:=r.length;simp only [Array.length_toList] at e;omega
theorem Inv.tuple(I:Inv X zd σ H s)(h:SqT X.K H a xs):∃its:List Value,Vals xs its∧IsTup s.heap a its.toArray∧xs.length≤sizeLine:=by
 rcases h with h|⟨o,its,n,hk,hc,hs,hz,r⟩
 ·obtain⟨z,its,r,p⟩:=h.ok I.hok;exact⟨its,r,p,z⟩
 ·refine⟨its.toList,r,⟨o,I.kIn a o hk,hc,n,by simpa using hs⟩, ?_⟩;have e:=r.length;simp only [Array.length_toList] at e;omega
theorem Inv.list_inj(I:Inv X zd σ H s)(h:SqL X.K H a xs)(h':SqL X.K H a ys):xs=ys:=by
 obtain⟨its,r,⟨o,n,e,_,_,d⟩,_⟩:=I.list h;obtain⟨its',r',⟨o',n',e',_,_,d'⟩,_⟩:=I.list h';rw [e] at e';cases e';rw [d] at d';injection d' with d1 _
 have:its=its':=by simpa using congrArg Array.toList d1
 subst this;exact r.inj r'
theorem Inv.tuple_inj(I:Inv X zd σ H s)(h:SqT X.K H a xs)(h':SqT X.K H a ys):xs=ys:=by
 obtain⟨its,r,⟨o,e,_,n,d⟩,_⟩:=I.tuple h;obtain⟨its',r',⟨o',e',_,n',d'⟩,_⟩:=I.tuple h';rw [e] at e';cases e';rw [d] at d';injection d' with d1 _
 have:its=its':=by simpa using congrArg Array.toList d1
 subst this;exact r.inj r'
end
abbrev Cx.wish(X:Cx)(E:Value→Shared→Prop):Cx:={X with xe:=E}
abbrev Cx.nox(X:Cx):Cx:=X.wish fun _ _=>False
theorem Cx.Ok.wish{X:Cx}(ok:X.Ok)(E:Value→Shared→Prop):(X.wish E).Ok:=
 ⟨ok.mod,ok.kind,ok.glob,ok.blt,ok.above,ok.inj,ok.has,ok.cab,ok.hd,ok.frames,ok.stk,ok.exf,ok.bs,ok.bsz,ok.noex,ok.exfs,ok.funs,ok.frf⟩
theorem Cx.Ok.unwish{X:Cx}{E:Value→Shared→Prop}(ok:(X.wish E).Ok):X.Ok:=
 ⟨ok.mod,ok.kind,ok.glob,ok.blt,ok.above,ok.inj,ok.has,ok.cab,ok.hd,ok.frames,ok.stk,ok.exf,ok.bs,ok.bsz,ok.noex,ok.exfs,ok.funs,ok.frf⟩
section
variable{X:Cx}{zd:List (Addr×Obj)}{σ:St}{H:Hp}{s:Shared}{E:Value→Shared→Prop}
theorem Inv.wish(I:Inv X zd σ H s)(E:Value→Shared→Prop):Inv (X.wish E) zd σ H s:=⟨I.ok.wish E,I.os,I.bare,I.base,I.loc,I.cell,I.free,I.freeC,I.pin,I.hok,I.len⟩
theorem Inv.unwish(I:Inv (X.wish E) zd σ H s):Inv X zd σ H s:=⟨I.ok.unwish,I.os,I.bare,I.base,I.loc,I.cell,I.free,I.freeC,I.pin,I.hok,I.len⟩
theorem PE.nox{e:Expr}{t:TE}(h:PE X.nox e t):PE X e t:=fun zd s σ H Q I hw=>
 wpAny_mono (h zd s σ H Q (I.wish _) hw) (fun _ _ ⟨v,H',I',r,q⟩=>⟨v,H',I'.unwish,r,q⟩) fun _ _ z=>False.elim z
end
section
variable{X:Cx}{st:Stmt}{x_3:List Stmt}{t u:TS}{e:Expr}{te:TE}{pos:Pos}
def cy_5:TS:=fun D σ H=>D.nx σ H
def tSeq(t u:TS):TS:=fun D σ H=>t {D with nx:=u D} σ H
theorem ci_9:PSs X [] cy_5:=fun _ _ σ H _ I h=>wpAny_execs_nil ⟨σ,H,I,h⟩
theorem bz_9(h1:PS X st t)(h2:PSs X x_3 u):PSs X (st::x_3) (tSeq t u):=by
 intro zd s σ H D I h;refine wpAny_execs_cons (thn (h1 zd s σ H {D with nx:=u D} I h) fun f s1 q=> ?_);cases f with
 |next=>
  obtain⟨σ',H',I',q⟩:=q;exact h2 zd s1 σ' H' D I' q
 |ret v=>exact q
 |brk=>exact q
 |cont=>exact q
theorem al_7(h1:PS X st t):PSs X [st] t:=by
 intro zd s σ H D I h;refine wpAny_execs_cons (thn (h1 zd s σ H D I h) fun f s1 q=> ?_);cases f with
 |next=>exact wpAny_execs_nil q
 |ret v=>exact q
 |brk=>exact q
 |cont=>exact q
theorem Inv.quiet{zd:List (Addr×Obj)}{σ:St}{H:Hp}{s:Shared}(I:Inv X zd σ H s):interactive X.env=false:=by simp [interactive,I.ok.kind]
def cy_6(te:TE):TS:=fun D σ H=>te σ H fun _ H1=>D.nx σ H1
theorem aw_8(he:PE X e te)(hs:swapsWith e none pos.line X.env=pure false:=by rfl):PS X (.Expr e pos) (cy_6 te):=by
 intro zd s σ H D I h;exact wpAny_Expr_any (thn (he zd s σ H _ I h) fun v s1 ⟨x,H1,I1,r1,q1⟩=>⟨σ,H1,I1,q1⟩) I.quiet hs
def tRet(te:TE):TS:=fun D σ H=>te σ H D.rt
theorem ca_0(he:PE X e te):PS X (.Return (some e) pos) (tRet te):=by
 intro zd s σ H D I h;exact wpAny_Return_some (thn (he zd s σ H _ I h) fun v s1 ⟨x,H1,I1,r1,q1⟩=>⟨x,σ,H1,I1,r1,q1⟩)
def tIfS(c:TT)(t u:TS):TS:=fun D σ H=>c σ H fun b H1=>if b=true then t D σ H1 else u D σ H1
theorem cy_7{c:Expr}{a b:List Stmt}{tc:TT}(hc:PT X c tc)(ha:PSs X a t)(hb:PSs X b u):PS X (.If c a b pos) (tIfS tc t u):=by
 intro zd s σ H D I h;refine wpAny_If (thn (hc zd s σ H _ I h) fun d s1 ⟨H1,I1,q1⟩=> ?_);cases d with
 |true=>exact ha zd s1 σ H1 D I1 q1
 |false=>exact hb zd s1 σ H1 D I1 q1
end
abbrev TG:=V→St→Hp→(St→Hp→Prop)→Prop
abbrev TGs:=List V→St→Hp→(St→Hp→Prop)→Prop
def PG(X:Cx)(target:Expr)(t:TG):Prop:=
 ∀(zd:List (Addr×Obj)) (s:Shared) (σ:St) (H:Hp) (v:V) (u:Value) (Q:St→Hp→Prop),Inv X zd σ H s→RelV v u→t v σ H Q→
  wpAny (model X.prog X.w) X.A (assign target X.env u) (fun _ s'=>∃σ' H',Inv X zd σ' H' s'∧Q σ' H') X.xe s
def PGs(X:Cx)(ts:List Expr)(t:TGs):Prop:=
 ∀(zd:List (Addr×Obj)) (s:Shared) (σ:St) (H:Hp) (vs:List V) (us:List Value) (Q:St→Hp→Prop),Inv X zd σ H s→Vals vs us→t vs σ H Q→
  wpAny (model X.prog X.w) X.A (assignInOrder ((assignEach ts X.env).map (·.2)) us) (fun _ s'=>∃σ' H',Inv X zd σ' H' s'∧Q σ' H') X.xe s
section
variable{X:Cx}{pos:Pos}
def bp_3(i:Nat):TG:=fun v σ H Q=>Q (σ.set i (some v)) H
theorem aa_2{i:Nat}{x:Str}(hN:X.N.Nodup)(hi:X.N[i]? =some x)(hx:Loc X.env.scope x)(hf:X.fn x=true∨X.env.scope.names.lookup x=some .local:=by first|exact .inl rfl|exact .inr rfl|assumption):PG X (.Name x pos) (bp_3 i):=by
 intro zd s σ H v u Q I r h;exact wpAny_assign_Name (an_0 I hN hi hx r (fun s' I'=>⟨_,H,I',h⟩) hf)
def gNil:TGs:=fun vs σ H Q=>vs= []∧Q σ H
def cy_8(t:TG)(u:TGs):TGs:=fun vs σ H Q=>∃v r,vs=v::r∧t v σ H fun σ' H'=>u r σ' H' Q
theorem bp_4:PGs X [] gNil:=by
 intro zd s σ H vs us Q I r h;obtain⟨e,h⟩:=h;subst e;cases r;exact assignInOrder_nil ⟨σ,H,I,h⟩
theorem ad_8{e:Expr}{es:List Expr}{t:TG}{u:TGs}(h1:PG X e t)(h2:PGs X es u)
  (hs:(assignEach (e::es) X.env).map (·.2)=assign e X.env::(assignEach es X.env).map (·.2):=by rfl):PGs X (e::es) (cy_8 t u):=by
 intro zd s σ H vs us Q I r h;obtain⟨v,vr,e1,h⟩:=h;subst e1;cases r with
 |cons r rr=>
  rw [hs];refine assignInOrder_cons (thn (h1 zd s σ H _ _ _ I r h) fun _ s1 ⟨σ1,H1,I1,q1⟩=> ?_);exact h2 zd s1 σ1 H1 _ _ Q I1 rr q1
def gTup(K:Frag)(n:Nat)(t:TGs):TG:=fun v σ H Q=>∃a xs,v= .ref a∧SqT K H a xs∧xs.length=n∧t xs σ H Q
theorem ca_1{es:List Expr}{k:Nat}{t:TGs}{n:Nat}(hc:X.calm=true)(h:PGs X es t)
  (hn:(assignEach es X.env).length=n:=by rfl) (hst:(assignEach es X.env).findIdx? (·.1)=none:=by rfl):PG X (.Tuple es k pos) (gTup X.K n t):=by
 intro zd s σ H v u Q I r hw;obtain⟨a,xs,e1,hq,hl,hw⟩:=hw;subst e1;cases r;obtain⟨its,rv,ht,hz⟩:=I.tuple hq;refine assign_Tuple_tuple (I.ok.hd hc) ht (by simp [hn,←hl,rv.length]) hst fun h' hx=> ?_;have I1:Inv X zd σ H {s with heap:=h'}:=I.kept (t':=s.toks) fun b o e=>hx b o (Nat.ne_of_lt (Heap.lt_size e)) e;exact h zd _ σ H xs _ Q I1 (by simpa using rv) hw
def tAsg(te:TE)(g:TG):TS:=fun D σ H=>te σ H fun x H1=>g x σ H1 D.nx
theorem cs_0{tg e:Expr}{te:TE}{g:TG}(he:PE X e te)(hg:PG X tg g)(hs:swapsWithSole [tg] e pos.line X.env=pure false:=by rfl)(hw:swappedStores [tg] e X.env=pure none:=by rfl)
  (h1:(assignEach [tg] X.env).map (·.2)= [assign tg X.env]:=by rfl):PS X (.Assign [tg] e pos) (tAsg te g):=by
 intro zd s σ H D I h;refine wpAny_Assign_stores (thn (he zd s σ H _ I h) fun v s1 ⟨x,H1,I1,r1,q1⟩=> ?_) hs hw;rw [h1];exact thn (hg zd s1 σ H1 x v _ I1 r1 q1) fun _ s2 q=>q
theorem ca_2{i:Nat}{x:Str}{e:Expr}{te:TE}{pos':Pos}(hN:X.N.Nodup)(hi:X.N[i]? =some x)(hx:Loc X.env.scope x)(he:PE X e te)(hs:swapsWith e (some (.Name x pos')) pos.line X.env=pure false:=by rfl)(hf:X.fn x=true∨X.env.scope.names.lookup x=some .local:=by first|exact .inl rfl|exact .inr rfl|assumption):
  PS X (.Assign [.Name x pos'] e pos) (tAsg te (bp_3 i)):=by
 intro zd s σ H D I h;refine wpAny_Assign_Name (thn (he zd s σ H _ I h) fun v s1 ⟨y,H1,I1,r1,q1⟩=> ?_) hs;exact an_0 I1 hN hi hx r1 (fun s2 I2=>⟨_,H1,I2,q1⟩) hf
end
section
variable{X:Cx}{pos:Pos}
def cs_1(c:TT)(tb:TS):TS:=fun D σ H=>∃W:Nat→St→Hp→Prop,(∃m,W m σ H)∧∀m σ H,W m σ H→
 c σ H fun b H1=>if b=true then∃N:St→Hp→Prop,(∀σ' H',N σ' H'→∃m',m' < m∧W m' σ' H')∧tb {D with nx:=N,ct:=N,bk:=D.nx} σ H1 else D.nx σ H1
theorem ca_3{c:Expr}{body:List Stmt}{tc:TT}{tb:TS}(hp:PassesOwn (model X.prog X.w) X.A X.env X.xe)(hc:PT X c tc)(hb:PSs X body tb):PS X (.While c body [] pos) (cs_1 tc tb):=by
 intro zd s σ H D I h;obtain⟨W,⟨m0,w0⟩,turn⟩:=h;refine wpAny_While (codeAny_whileLoop (fun n s'=>∃σ' H',Inv X zd σ' H' s'∧W n σ' H') ?_ m0 ⟨σ,H,I,w0⟩)
 rintro n s1 ⟨σ1,H1,I1,w1⟩
 refine wpAny_passesOwn hp (thn (hc zd s1 σ1 H1 _ I1 (turn n σ1 H1 w1)) fun b s2 ⟨H2,I2,q2⟩=> ?_);cases b with
 |true=>
  obtain⟨N,hN,q2⟩:=q2;rw [if_pos rfl];refine wpAny_passesOwn hp (thn (hb zd s2 σ1 H2 _ I2 q2) fun f s3 q3=> ?_);cases f with
  |next=>
   obtain⟨σ3,H3,I3,n3⟩:=q3;obtain⟨m',hm,w3⟩:=hN σ3 H3 n3;exact⟨m',hm,σ3,H3,I3,w3⟩
  |cont=>
   obtain⟨σ3,H3,I3,n3⟩:=q3;obtain⟨m',hm,w3⟩:=hN σ3 H3 n3;exact⟨m',hm,σ3,H3,I3,w3⟩
  |brk=>exact q3
  |ret v=>exact q3
 |false=>
  rw [if_neg Bool.false_ne_true];exact wpAny_execs_nil ⟨σ1,H2,I2,q2⟩
end
structure It where
 go:Nat→Hp→Prop
 yld:Nat→Hp→V→Hp→Prop
 stop:Nat→Hp→Prop
def x_4(X:Cx)(zd:List (Addr×Obj))(H:Hp)(b:Addr):Prop:=
 H b=none∧b≠X.env.locals∧b∉X.fs∧(b∈X.ex∨X.s₀.heap.objs.size≤b)∧(∀x c,X.env.cells.lookup x=some c→c≠b)∧∀p∈X.pn ++ zd,p.1≠b
theorem Inv.fpOk{X:Cx}{zd:List (Addr×Obj)}{σ:St}{H H':Hp}{s:Shared}{b:Addr}(I:Inv X zd σ H s)(hb:s.heap.objs.size≤b)(hn:H' b=none):x_4 X zd H' b:=by
 refine⟨hn,Nat.ne_of_gt (Nat.lt_of_lt_of_le I.lt hb),I.nofs hb, .inr (Nat.le_trans I.sz hb),fun x c e z=> ?_,fun p hp z=> ?_⟩
 ·obtain⟨v,q⟩:=I.cell x c e;exact absurd (Nat.lt_of_lt_of_le q.lt (by rw [z];exact hb)) (Nat.lt_irrefl _)
 ·exact absurd (Nat.lt_of_lt_of_le (Heap.lt_size (I.pin p hp).1) (by rw [z];exact hb)) (Nat.lt_irrefl _)
structure Turn(P:Program)(w:World)(K:Frag)(tg:Expr)(J:It)(fp:List Addr)(it:Addr)(tn:Nat→Heap→Prop):Prop where
 mem:it∈fp
 obj:∀i h,tn i h→∀b∈fp,∃o,h.get? b=some o∧∀v,o.data≠ .cell v
 keep:∀i h h',tn i h→(∀b∈fp,∀o,h.get? b=some o→h'.get? b=some o)→tn i h'
 item:∀(X:Cx),X.prog=P→X.w=w→X.K=K→X.calm=true→∀(i:Nat) (zd:List (Addr×Obj)) (s:Shared) (σ:St) (H:Hp) (E:Value→Shared→Prop),Inv X zd σ H s→(∀b∈fp,x_4 X zd H b)→tn i s.heap→J.go i H→
  wpAny (model P w) X.A (pyNext (.ref it)) (fun r s1=>∃u,r=some u∧
   wpAny (model P w) X.A (letOwnedTupleGo tg (.ref it) u) (fun _ s2=>∃x H',Inv X zd σ H' s2∧RelV x u∧J.yld i H x H'∧tn (i + 1) s2.heap∧∀b∈fp,H' b=none) E s1) E s
 done:∀(X:Cx),X.prog=P→X.w=w→X.K=K→X.calm=true→∀(i:Nat) (zd:List (Addr×Obj)) (s:Shared) (σ:St) (H:Hp) (E:Value→Shared→Prop),Inv X zd σ H s→(∀b∈fp,x_4 X zd H b)→tn i s.heap→J.stop i H→
  wpAny (model P w) X.A (pyNext (.ref it)) (fun r s1=>r=none∧Inv X zd σ H s1) E s
 self:∀(A:Around) (i:Nat) (s:Shared) (Q:Value→Shared→Prop) (E:Value→Shared→Prop),tn i s.heap→Q (.ref it) s→wpAny (model P w) A (pyIter (.ref it)) Q E s
abbrev TI:=St→Hp→(It→Hp→Prop)→Prop
def PIE(X:Cx)(zd:List (Addr×Obj))(σ:St)(tg:Expr)(R:It→Hp→Prop)(itv:Value)(s2:Shared):Prop:=
 ∃(it:Addr) (fp:List Addr) (tn:Nat→Heap→Prop) (J:It) (H':Hp),itv= .ref it∧Inv X zd σ H' s2∧Turn X.prog X.w X.K tg J fp it tn∧tn 0 s2.heap∧(∀b∈fp,x_4 X zd H' b)∧R J H'
def PI(X:Cx)(tg iter:Expr)(wi:TI):Prop:=
 ∀(zd:List (Addr×Obj)) (s:Shared) (σ:St) (H:Hp) (R:It→Hp→Prop),Inv X zd σ H s→wi σ H R→
  wpAny (model X.prog X.w) X.A (eval iter X.env) (fun v s1=>wpAny (model X.prog X.w) X.A (pyIter v) (PIE X zd σ tg R) X.xe s1) X.xe s
theorem bd_7{M:Model}{A:Around}{E:Value→Shared→Prop}{s:Shared}{tg:Expr}{it:Addr}{u:Value}{o:Obj}{n:String}{vs:Array Value}{Q:Unit→Shared→Prop}(ho:s.heap.get? it=some o)(hc:o.cls= .type n)(hd:o.data= .fields vs)
  (hn: ["enumerate", "zip", "dict_itemiterator", "dict_reverseitemiterator", "odict_iterator", "itertools.zip_longest", "itertools.pairwise"].contains n=false) (hQ:Q () s):wpAny M A (letOwnedTupleGo tg (.ref it) u) Q E s:=by
 unfold letOwnedTupleGo;cases tg <;> first
  |exact wpAny_pure hQ
  | (cases u <;> first
    |exact wpAny_pure hQ
    | (refine wpAny_bind (wpAny_load ho ?_)
       rw [hc,hd];show wpAny M A (if(["enumerate", "zip", "dict_itemiterator", "dict_reverseitemiterator", "odict_iterator", "itertools.zip_longest", "itertools.pairwise"].contains n && vs[0]? ==some (rawInt _))=true then _ else _) Q E s;rw [if_neg (by intro h;rw [hn,Bool.false_and] at h;cases h)];exact wpAny_pure hQ))
def Itl(K:Frag)(a:Addr):It:=
 ⟨fun i H=>∃xs x,SqL K H a xs∧xs[i]? =some x,fun i H x H'=>H'=H∧∀xs,SqL K H a xs→xs[i]? =some x,fun i H=>∃xs,SqL K H a xs∧xs.length≤i⟩
def Itt(K:Frag)(a:Addr):It:=
 ⟨fun i H=>∃xs x,SqT K H a xs∧xs[i]? =some x,fun i H x H'=>H'=H∧∀xs,SqT K H a xs→xs[i]? =some x,fun i H=>∃xs,SqT K H a xs∧xs.length≤i⟩
def Itr(lo:Int)(n:Nat):It:=⟨fun i _=>i < n,fun i H x H'=>H'=H∧x= .int (lo + i),fun i _=>n≤i⟩
theorem aa_3{P:Program}{w:World}{K:Frag}{tg:Expr}(a it:Addr):Turn P w K tg (Itl K a) [it] it (fun i h=>h.IsListIter it a i) where
 mem:=by simp
 obj:=fun i h st b hb=>by
  have e:b=it:=by simpa using hb
  subst e;obtain⟨o,e,c,d⟩:=st;exact⟨o,e,fun v z=>by rw [d] at z;cases z⟩
 keep:=fun i h h' st k=>st.at fun o e=>k it (by simp) o e
 item:=by
  intro X hP hw hK hc i zd s σ H E I hf st hg;subst hP hw hK;obtain⟨xs,x,hq,hx⟩:=hg;obtain⟨its,rv,p,hz⟩:=I.list hq;obtain⟨u,hu,ru⟩:=rv.get hx;obtain⟨f0,f1,f2,f3,f4,f5⟩:=hf it (by simp);refine wpAny_pyNext_list_item st p.isList (x:=u) (by simpa using hu) fun h' st' sb=> ?_;have I1:Inv X zd σ H {s with heap:=h'}:=I.turned (t':=s.toks) (fun b o hb e=>(sb.2 b hb).trans e) f0 f1 f3 f4 f5;obtain⟨o,e,c,d⟩:=id st';exact⟨u,rfl,bd_7 (s:={s with heap:=h'}) e c d (by decide) ⟨x,H,I1,ru,⟨rfl,fun ys hy=>by rw [I.list_inj hy hq];exact hx⟩,st',fun b hb=>(hf b hb).1⟩⟩
 done:=by
  intro X hP hw hK hc i zd s σ H E I hf st hg;subst hP hw hK;obtain⟨xs,hq,hx⟩:=hg;obtain⟨its,rv,p,hz⟩:=I.list hq;obtain⟨f0,f1,f2,f3,f4,f5⟩:=hf it (by simp);have hl:=rv.length;exact wpAny_pyNext_list_end (I.ok.hd hc) st p.isList (by simp;omega) fun h' eb=>⟨rfl,I.turned (t':=s.toks) (fun b o hb e=>eb b o hb e) f0 f1 f3 f4 f5⟩
 self:=fun _ _ _ _ _ st h=>wpAny_pyIter_listiter st h
theorem bl_1{P:Program}{w:World}{K:Frag}{tg:Expr}(a it:Addr):Turn P w K tg (Itt K a) [it] it (fun i h=>h.IsTupleIter it a i) where
 mem:=by simp
 obj:=fun i h st b hb=>by
  have e:b=it:=by simpa using hb
  subst e;obtain⟨o,e,c,d⟩:=st;exact⟨o,e,fun v z=>by rw [d] at z;cases z⟩
 keep:=fun i h h' st k=>st.at fun o e=>k it (by simp) o e
 item:=by
  intro X hP hw hK hc i zd s σ H E I hf st hg;subst hP hw hK;obtain⟨xs,x,hq,hx⟩:=hg;obtain⟨its,rv,p,hz⟩:=I.tuple hq;obtain⟨u,hu,ru⟩:=rv.get hx;obtain⟨f0,f1,f2,f3,f4,f5⟩:=hf it (by simp);refine wpAny_pyNext_tuple_item st (show s.heap.IsTuple a its.toArray from p) (x:=u) (by simpa using hu) fun h' st' sb=> ?_;have I1:Inv X zd σ H {s with heap:=h'}:=I.turned (t':=s.toks) (fun b o hb e=>(sb.2 b hb).trans e) f0 f1 f3 f4 f5;obtain⟨o,e,c,d⟩:=id st';exact⟨u,rfl,bd_7 (s:={s with heap:=h'}) e c d (by decide) ⟨x,H,I1,ru,⟨rfl,fun ys hy=>by rw [I.tuple_inj hy hq];exact hx⟩,st',fun b hb=>(hf b hb).1⟩⟩
 done:=by
  intro X hP hw hK hc i zd s σ H E I hf st hg;subst hP hw hK;obtain⟨xs,hq,hx⟩:=hg;obtain⟨its,rv,p,hz⟩:=I.tuple hq;obtain⟨f0,f1,f2,f3,f4,f5⟩:=hf it (by simp);have hl:=rv.length;exact wpAny_pyNext_tuple_end (I.ok.hd hc) st (show s.heap.IsTuple a its.toArray from p) (by simp;omega) fun h' eb=>⟨rfl,I.turned (t':=s.toks) (fun b o hb e=>eb b o hb e) f0 f1 f3 f4 f5⟩
 self:=fun _ _ _ _ _ st h=>wpAny_pyIter_tupleiter st h
theorem bl_2{P:Program}{w:World}{K:Frag}{tg:Expr}(it:Addr)(lo:Int)(n:Nat):Turn P w K tg (Itr lo n) [it] it (fun i h=>IsRangeIter h it (lo + (i:Nat) * 1) ((n:Int) - (i:Nat)) 1) where
 mem:=by simp
 obj:=fun i h st b hb=>by
  have e:b=it:=by simpa using hb
  subst e;exact⟨_,st,fun v z=>by
   have z':Data.fields _=Data.cell v:=z;cases z'⟩
 keep:=fun i h h' st k=>k it (by simp) _ st
 item:=by
  intro X hP hw hK hc i zd s σ H E I hf st hg;subst hP hw hK;obtain⟨f0,f1,f2,f3,f4,f5⟩:=hf it (by simp);have W:=Walks.range (prog:=X.prog) (w:=X.w) (I.ok.hd hc) it lo 1 n;refine W.item i s _ _ hg st fun v h' tk hv st' kk=> ?_;obtain⟨t,rfl⟩:=hv;have I1:Inv X zd σ H {s with heap:=h',toks:=tk}:=I.turned (fun b o hb e=>kk b o (by simpa using hb) e) f0 f1 f3 f4 f5;refine⟨_,rfl,bd_7 (s:={s with heap:=h',toks:=tk}) (n:= "range_iterator") st' rfl rfl (by decide) ⟨.int (lo + i),H,I1,⟨t, ?_⟩,⟨rfl,rfl⟩,st',fun b hb=>(hf b hb).1⟩⟩;rw [Int.mul_one]
 done:=by
  intro X hP hw hK hc i zd s σ H E I hf st hg;subst hP hw hK;obtain⟨f0,f1,f2,f3,f4,f5⟩:=hf it (by simp);exact wpAny_pyNext_range_end (I.ok.hd hc) st (by have:n≤i:=hg;omega) fun h' eb=>⟨rfl,I.turned (t':=s.toks) (fun b o hb e=>eb b o hb e) f0 f1 f3 f4 f5⟩
 self:=fun _ _ _ _ _ st h=>wpAny_pyIter_rangeiter st h
section
variable{X:Cx}{tg:Expr}
def cy_9(K:Frag)(tl:TE):TI:=fun σ H R=>tl σ H fun x H1=>∃a,x= .ref a∧(∃xs,SqL K H1 a xs)∧R (Itl K a) H1
theorem ca_4{zd:List (Addr×Obj)}{σ:St}{H:Hp}{s:Shared}{R:It→Hp→Prop}{E:Value→Shared→Prop}{lo hi:Int}{t u v:Tok}{tk:Nat}(I:Inv X zd σ H s)(h1: -(2 ^ 62)≤lo)(h2:lo < 2 ^ 62)(h3: -(2 ^ 62)≤hi)(h4:hi < 2 ^ 62)
  (q:R (Itr lo (hi - lo).toNat) H):wpAny (model X.prog X.w) X.A (pyIter (.ref s.heap.objs.size)) (PIE X zd σ tg R) E {s with heap:=s.heap.push {cls:= .type "range",data:= .fields #[.int lo t, .int hi u, .int 1 v]},toks:=tk}:=by
 refine wpAny_pyIter_range (IsRange.new ..) (small_one h1 h2 h3 h4) ?_;have I1:Inv X zd σ H {s with heap:=s.heap.push {cls:= .type "range",data:= .fields #[.int lo t, .int hi u, .int 1 v]},toks:=tk}:=I.kept fun b o e=>Heap.get?_push_of_some _ e;refine⟨(s.heap.push {cls:= .type "range",data:= .fields #[.int lo t, .int hi u, .int 1 v]}).objs.size, [(s.heap.push {cls:= .type "range",data:= .fields #[.int lo t, .int hi u, .int 1 v]}).objs.size],_,_,H,rfl,
  I1.kept (t':=tk) fun b o e=>Heap.get?_push_of_some _ e,bl_2 _ lo (hi - lo).toNat, ?_,fun b hb=> ?_,q⟩
 ·have e1:lo + ((0:Nat):Int) * 1=lo:=by simp
  have e2:(((hi - lo).toNat:Nat):Int) - ((0:Nat):Int)=Builtin.Range.rangeSize lo hi 1:=by rw [rangeSize_one];split <;> omega
  show IsRangeIter _ _ (lo + ((0:Nat):Int) * 1) ((((hi - lo).toNat:Nat):Int) - ((0:Nat):Int)) 1;rw [e1,e2];exact Heap.get?_push_size _ rfl
 ·have e:b=(s.heap.push {cls:= .type "range",data:= .fields #[.int lo t, .int hi u, .int 1 v]}).objs.size:=by simpa using hb
  subst e;exact I1.fpOk (Nat.le_refl _) (I1.hok.fresh (Nat.le_refl _))
def cz_0(ta:TA):TI:=fun σ H R=>ta σ H fun vs H1=>∃j:Int,vs= [.int j]∧ -(2 ^ 62)≤j∧j < 2 ^ 62∧R (Itr 0 j.toNat) H1
theorem bu_7{a:Expr}{ta:TA}{p pos:Pos}(hg:Gl X "range")(hm:X.mg "range" =none)(ha:PA X [a] ta)(hs:starEach [a] X.env= [(false,eval a X.env)]:=by rfl):PI X tg (.Call (.Name "range" p) [a] [] pos) (cz_0 ta):=by
 intro zd s σ H R I h;refine Call_ (v_4 I hg hm boot_range (PyProof.Rows.callWith_type1 (thn (ha pos zd s σ H _ I h) fun us s1 ⟨vs,H1,I1,r1,q1⟩=> ?_) hs rfl));obtain⟨j,e,q1,q2,q⟩:=q1;subst e;cases r1 with
 |cons r rr=>
  cases rr;obtain⟨t,rfl⟩:=r;exact call_range_1 (ca_4 I1 (by omega) (by omega) q1 q2 (by simpa using q))
def tFor(wi:TI)(g:TG)(tb:TS):TS:=fun D σ H=>wi σ H fun J H1=>∃W:Nat→Nat→St→Hp→Prop,(∃m,W 0 m σ H1)∧∀i m σ H,W i m σ H→
 (J.stop i H∧D.nx σ H)∨(J.go i H∧∃N:St→Hp→Prop,(∀σ' H',N σ' H'→∃m',m' < m∧W (i + 1) m' σ' H')∧∀x H',J.yld i H x H'→g x σ H' fun σ2 H2=>tb {D with nx:=N,ct:=N,bk:=D.nx} σ2 H2)
def an_1(fp:List Addr)(h:Heap):List (Addr×Obj):=fp.filterMap fun b=>(h.get? b).map fun o=>(b,o)
theorem v_5{fp:List Addr}{h:Heap}{b:Addr}{o:Obj}(hb:b∈fp)(e:h.get? b=some o):(b,o)∈an_1 fp h:=List.mem_filterMap.mpr ⟨b,hb,by rw [e];rfl⟩
theorem bu_8{fp:List Addr}{h:Heap}{p:Addr×Obj}(hp:p∈an_1 fp h):p.1∈fp∧h.get? p.1=some p.2:=by
 obtain⟨b,hb,e⟩:=List.mem_filterMap.mp hp;cases q:h.get? b with
 |none=>rw [q] at e;cases e
 |some o=>
  rw [q] at e;have e':(b,o)=p:=Option.some.inj e;subst e';exact⟨hb,q⟩
theorem Inv.pinned{zd:List (Addr×Obj)}{σ:St}{H:Hp}{s:Shared}{fp:List Addr}(I:Inv X zd σ H s)(hf:∀b∈fp,x_4 X zd H b)(ho:∀b∈fp,∃o,s.heap.get? b=some o∧∀v,o.data≠ .cell v):Inv X (zd ++ an_1 fp s.heap) σ H s:=
 I.pins_of fun p hp=>(List.mem_append.mp hp).elim (fun z=>I.pin p (List.mem_append_right _ z)) fun z=>by
  obtain⟨hb,e⟩:=bu_8 z;obtain⟨f0,f1,f2,_⟩:=hf p.1 hb;obtain⟨o,e',d⟩:=ho p.1 hb;rw [e] at e';cases e';exact⟨e,f0,f1,f2,d⟩
theorem Inv.unpinned{zd pl:List (Addr×Obj)}{σ:St}{H:Hp}{s:Shared}(I:Inv X (zd ++ pl) σ H s):Inv X zd σ H s:=I.pins_of fun p hp=>I.pin p (List.mem_append_right _ (List.mem_append_left _ hp))
theorem cs_2{iter:Expr}{body:List Stmt}{wi:TI}{g:TG}{tb:TS}{pos:Pos}(hp:PassesOwn (model X.prog X.w) X.A X.env X.xe)(hc:X.calm=true)(hi:PI X tg iter wi)(hg:PG X tg g)(hb:PSs X body tb)
  (hs:∀x,foldedSetIterable iter X.env x=pure x:=by intro _;rfl):PS X (.For tg iter body [] pos) (tFor wi g tb):=by
 intro zd s σ H D I h;refine wpAny_For (thn (hi zd s σ H _ I h) fun v s1 h1=>thn h1 fun itv s2 h2=> ?_) hs;obtain⟨it,fp,tn,J,H2,e,I2,T,st2,f2,W,⟨m0,w0⟩,turn⟩:=h2;subst e
 
 have cg:∀{H':Hp},(∀b∈fp,H' b=none)→∀b∈fp,x_4 X zd H' b:=fun hn b hb=>⟨hn b hb,(f2 b hb).2⟩;refine codeAny_forLoop_any (fun n s'=>∃i σ' H',Inv X zd σ' H' s'∧tn i s'.heap∧(∀b∈fp,H' b=none)∧W i n σ' H') ?_ m0 ⟨0,σ,H2,I2,st2,fun b hb=>(f2 b hb).1,w0⟩
 rintro n s3 ⟨i,σ3,H3,I3,st3,fr3,w3⟩
 rcases turn i n σ3 H3 w3 with⟨stop,qn⟩|⟨go,N,hN,step⟩
 ·refine wpAny_passesOwn hp (thn (T.done X rfl rfl rfl hc i zd s3 σ3 H3 X.xe I3 (cg fr3) st3 stop) fun r s4 ⟨hr,I4⟩=> ?_);subst hr;exact wpAny_execs_nil ⟨σ3,H3,I4,qn⟩
 ·refine wpAny_passesOwn hp (thn (T.item X rfl rfl rfl hc i zd s3 σ3 H3 X.xe I3 (cg fr3) st3 go) fun r s4 ⟨u,hr,h4⟩=> ?_);subst hr;refine wpAny_passesOwn hp (thn h4 fun _ s5 ⟨x,H5,I5,r5,y5,st5,fr5⟩=> ?_);have I5':=I5.pinned (cg fr5) (T.obj _ _ st5);refine wpAny_passesOwn hp (thn (hg _ s5 σ3 H5 x u _ I5' r5 (step x H5 y5)) fun _ s6 ⟨σ6,H6,I6,q6⟩=> ?_);refine wpAny_passesOwn hp (thn (hb _ s6 σ6 H6 _ I6 q6) fun f s7 q7=> ?_);have again:∀{σ7:St} {H7:Hp},Inv X (zd ++ an_1 fp s5.heap) σ7 H7 s7→N σ7 H7→∃m,m < n∧∃i σ' H',Inv X zd σ' H' s7∧tn i s7.heap∧(∀b∈fp,H' b=none)∧W i m σ' H':=fun{σ7 H7} I7 n7=>by
   obtain⟨m',hm,w7⟩:=hN σ7 H7 n7;refine⟨m',hm,i + 1,σ7,H7,I7.unpinned,T.keep _ _ _ st5 fun b hb o e=>(I7.pin (b,o) (List.mem_append_right _ (List.mem_append_right _ (v_5 hb e)))).1,fun b hb=> ?_,w7⟩;obtain⟨o,e,d⟩:=T.obj _ _ st5 b hb;exact(I7.pin (b,o) (List.mem_append_right _ (List.mem_append_right _ (v_5 hb e)))).2.1
  cases f with
  |next=>obtain⟨σ7,H7,I7,n7⟩:=q7;exact again I7 n7
  |cont=>obtain⟨σ7,H7,I7,n7⟩:=q7;exact again I7 n7
  |brk=>obtain⟨σ7,H7,I7,q7⟩:=q7;exact⟨σ7,H7,I7.unpinned,q7⟩
  |ret v=>obtain⟨x7,σ7,H7,I7,r7,q7⟩:=q7;exact⟨x7,σ7,H7,I7.unpinned,r7,q7⟩
end
abbrev R2:=V→V→Hp→VK→Prop
def OpR(X:Cx)(f:Value→Value→Sem Value)(r:R2):Prop:=
 ∀(zd:List (Addr×Obj)) (s:Shared) (σ:St) (H:Hp) (x y:V) (v u:Value) (Q:VK),Inv X zd σ H s→RelV x v→RelV y u→r x y H Q→
  wpAny (model X.prog X.w) X.A (f v u) (EP X zd σ Q) X.xe s
def w_8(X:Cx)(f:Value)(r:List V→Hp→VK→Prop):Prop:=
 ∀(zd:List (Addr×Obj)) (s:Shared) (σ:St) (H:Hp) (xs:List V) (us:List Value) (Q:VK),Inv X zd σ H s→Vals xs us→r xs H Q→
  wpAny (model X.prog X.w) X.A (call f us) (EP X zd σ Q) X.xe s
def TruR(X:Cx)(r:V→Hp→(Bool→Hp→Prop)→Prop):Prop:=
 ∀(zd:List (Addr×Obj)) (s:Shared) (σ:St) (H:Hp) (x:V) (v:Value) (Q:Bool→Hp→Prop),Inv X zd σ H s→RelV x v→r x H Q→
  wpAny (model X.prog X.w) X.A (truthy v) (TP X zd σ Q) X.xe s
def tOp(r:R2)(ta tb:TE):TE:=fun σ H Q=>ta σ H fun x H1=>tb σ H1 fun y H2=>r x y H2 Q
def rI(C:Int→Int→Prop)(g:Int→Int→V):R2:=fun x y H Q=>∃i j,x= .int i∧y= .int j∧C i j∧Q (g i j) H
def rI0(g:Int→Int→V):R2:=fun x y H Q=>∃i j,x= .int i∧y= .int j∧Q (g i j) H
section
variable{X:Cx}{a b c:Expr}{ta tb tc:TE}{pos:Pos}
theorem binT(ha:PE X a ta)(hb:PE X b tb){zd:List (Addr×Obj)}{s:Shared}{σ:St}{H:Hp}{R:V→V→Hp→Prop}(I:Inv X zd σ H s)
  (h:ta σ H fun x H1=>tb σ H1 fun y H2=>R x y H2) {Q:Value→Shared→Prop} {f:Value→Value→Sem Value}
  (hf:∀v u s2 x y H2,Inv X zd σ H2 s2→RelV x v→RelV y u→R x y H2→wpAny (model X.prog X.w) X.A (f v u) Q X.xe s2):
  wpAny (model X.prog X.w) X.A (eval a X.env) (fun v s₁=>wpAny (model X.prog X.w) X.A (eval b X.env) (fun u s₂=>wpAny (model X.prog X.w) X.A (f v u) Q X.xe s₂) X.xe s₁) X.xe s:=by
 refine thn (ha zd s σ H _ I h) fun v s1 ⟨x,H1,I1,r1,q1⟩=> ?_;refine thn (hb zd s1 σ H1 _ I1 q1) fun u s2 ⟨y,H2,I2,r2,q2⟩=> ?_;exact hf v u s2 x y H2 I2 r1 r2 q2
theorem cp_3{op:Operator}{r:R2}(ho:OpR X (binaryOp op) r)(ha:PE X a ta)(hb:PE X b tb):PE X (.BinOp a op b pos) (tOp r ta tb):=by
 intro zd s σ H Q I h;exact wpAny_BinOp (binT ha hb I h fun v u s2 x y H2 I2 rx ry q=>ho zd s2 σ H2 x y v u Q I2 rx ry q)
theorem opI{f:Value→Value→Sem Value}{C:Int→Int→Prop}{g:Int→Int→Int}
  (rule:∀(i j:Int) (t u:Tok) (s:Shared) (Q:Value→Shared→Prop) (E:Value→Shared→Prop),C i j→Q (.int (g i j) s.toks) {s with toks:=s.toks + 1}→wpAny (model X.prog X.w) X.A (f (.int i t) (.int j u)) Q E s):
  OpR X f (rI C fun i j=> .int (g i j)):=by
 intro zd s σ H x y v u Q I rx ry h;obtain⟨i,j,rfl,rfl,hc,q⟩:=h;obtain⟨t,rfl⟩:=rx;obtain⟨t',rfl⟩:=ry;exact rule i j t t' s _ _ hc ⟨.int (g i j),H,I.tok _,⟨_,rfl⟩,q⟩
theorem opI0{f:Value→Value→Sem Value}{g:Int→Int→Int}
  (rule:∀(i j:Int) (t u:Tok) (s:Shared) (Q:Value→Shared→Prop) (E:Value→Shared→Prop),Q (.int (g i j) s.toks) {s with toks:=s.toks + 1}→wpAny (model X.prog X.w) X.A (f (.int i t) (.int j u)) Q E s):
  OpR X f (rI0 fun i j=> .int (g i j)):=by
 intro zd s σ H x y v u Q I rx ry h;obtain⟨i,j,rfl,rfl,q⟩:=h;obtain⟨t,rfl⟩:=rx;obtain⟨t',rfl⟩:=ry;exact rule i j t t' s _ _ ⟨.int (g i j),H,I.tok _,⟨_,rfl⟩,q⟩
theorem opB0{f:Value→Value→Sem Value}{g:Int→Int→Bool}
  (rule:∀(i j:Int) (t u:Tok) (s:Shared) (Q:Value→Shared→Prop) (E:Value→Shared→Prop),Q (.bool (g i j)) s→wpAny (model X.prog X.w) X.A (f (.int i t) (.int j u)) Q E s):
  OpR X f (rI0 fun i j=> .bl (g i j)):=by
 intro zd s σ H x y v u Q I rx ry h;obtain⟨i,j,rfl,rfl,q⟩:=h;obtain⟨t,rfl⟩:=rx;obtain⟨t',rfl⟩:=ry;exact rule i j t t' s _ _ ⟨.bl (g i j),H,I,rfl,q⟩
def CPow(i j:Int):Prop:=0≤j∧j≤1000000∧i.natAbs < 2 ^ 64
def CMul(i j:Int):Prop:=(-(2 ^ 64) < i∧i < 2 ^ 64)∨(-(2 ^ 64) < j∧j < 2 ^ 64)
theorem CMul.ok{i j:Int}(h:CMul i j):IntMulOk i j:=by
 rcases h with⟨h1,h2⟩|⟨h1,h2⟩
 ·exact .of_left (intBits_le_64 h1 h2)
 ·exact .of_right (intBits_le_64 h1 h2)
theorem cs_5:OpR X (binaryOp .Add) (rI0 fun i j=> .int (i + j)):=opI0 fun _ _ _ _ _ _ _ q=>add_int q
theorem cs_6:OpR X (binaryOp .Mult) (rI CMul fun i j=> .int (i * j)):=opI fun _ _ _ _ _ _ _ hc q=>mul_int q hc.ok
theorem cs_7:OpR X (binaryOp .Mod) (rI (fun _ j=>0 < j) fun i j=> .int (i % j)):=opI fun i j _ _ _ _ _ hc q=>by
 have h1:(0:Int) < j:=hc;exact mod_int' (by omega) (by rw [Int.fmod_eq_emod_of_nonneg i (by omega)];exact q)
theorem cs_8:OpR X (binaryOp .Pow) (rI CPow fun i j=> .int (i ^ j.toNat)):=opI fun _ _ _ _ _ _ _ hc q=>pow_int_small hc.1 hc.2.1 hc.2.2 q
end
def scal:V→V→Bool
 | .non, .non=>true| .non, .int _=>true| .int _, .non=>true| .non, .bl _=>true| .bl _, .non=>true| .non, .str _=>true| .str _, .non=>true
 | .int _, .int _=>true| .bl _, .bl _=>true| .str _, .str _=>true| .byt _, .byt _=>true
 | .int _, .str _=>true| .str _, .int _=>true| .bl _, .str _=>true| .str _, .bl _=>true
 |_,_=>false
def rEq:R2:=fun x y H Q=>scal x y=true∧Q (.bl (decide (x=y))) H
def rNe:R2:=fun x y H Q=>scal x y=true∧Q (.bl (!decide (x=y))) H
theorem bp_5{i j:Int}:decide (V.int i=V.int j)=(i ==j):=by
 rw [Bool.eq_iff_iff];simp
theorem ca_5{i j:Bool}:decide (V.bl i=V.bl j)=(i ==j):=by
 rw [Bool.eq_iff_iff];simp
theorem bp_6{i j:Str}:decide (V.str i=V.str j)=(i ==j):=by
 rw [Bool.eq_iff_iff];simp
theorem bp_7{i j:Array UInt8}:decide (V.byt i=V.byt j)=(i.toList ==j.toList):=by
 rw [Bool.eq_iff_iff];cases i;cases j;simp
section
variable{X:Cx}{a b c:Expr}{ta tb tc:TE}{pos:Pos}
theorem d_4{zd:List (Addr×Obj)}{σ:St}{H:Hp}{s:Shared}{Q:VK}{k k':Bool}(I:Inv X zd σ H s)(q:Q (.bl k) H)(e:k=k'):EP X zd σ Q (.bool k') s:=by
 subst e;exact⟨.bl k,H,I,rfl,q⟩
theorem cz_3:OpR X (compareOp .Eq) rEq:=by
 intro zd s σ H x y v u Q I rx ry h;obtain⟨hs,q⟩:=h;cases x with
 |non=>
  cases rx;cases y with
  |non=>cases ry;exact PySem.EqNone.eq_none_none (d_4 I q (by simp))
  |bl j=>cases ry;exact PySem.EqNone.eq_none_bool (d_4 I q (by simp))
  |int j=>obtain⟨t',rfl⟩:=ry;exact PySem.EqNone.eq_none_int (d_4 I q (by simp))
  |str j=>obtain⟨t',rfl⟩:=ry;exact PySem.EqNone.eq_none_str (d_4 I q (by simp))
  |_=>exact absurd (show false=true from hs) Bool.false_ne_true
 |bl i=>
  cases rx;cases y with
  |non=>cases ry;exact PySem.EqNone.eq_bool_none (d_4 I q (by simp))
  |bl j=>cases ry;exact eq_bool (d_4 I q ca_5)
  |str j=>obtain⟨t',rfl⟩:=ry;exact PySem.EqMixed.eq_bool_str (d_4 I q (by simp))
  |_=>exact absurd (show false=true from hs) Bool.false_ne_true
 |int i=>
  obtain⟨t,rfl⟩:=rx;cases y with
  |non=>cases ry;exact PySem.EqNone.eq_int_none (d_4 I q (by simp))
  |int j=>obtain⟨t',rfl⟩:=ry;exact eq_int (d_4 I q bp_5)
  |str j=>obtain⟨t',rfl⟩:=ry;exact PySem.EqMixed.eq_int_str (d_4 I q (by simp))
  |_=>exact absurd (show false=true from hs) Bool.false_ne_true
 |str i=>
  obtain⟨t,rfl⟩:=rx;cases y with
  |non=>cases ry;exact PySem.EqNone.eq_str_none (d_4 I q (by simp))
  |bl j=>cases ry;exact PySem.EqMixed.eq_str_bool (d_4 I q (by simp))
  |int j=>obtain⟨t',rfl⟩:=ry;exact PySem.EqMixed.eq_str_int (d_4 I q (by simp))
  |str j=>obtain⟨t',rfl⟩:=ry;exact eq_str (d_4 I q bp_6)
  |_=>exact absurd (show false=true from hs) Bool.false_ne_true
 |byt i=>
  obtain⟨t,rfl⟩:=rx;cases y with
  |byt j=>obtain⟨t',rfl⟩:=ry;exact eq_bytes (d_4 I q bp_7)
  |_=>exact absurd (show false=true from hs) Bool.false_ne_true
 |_=>cases y <;> exact absurd (show false=true from hs) Bool.false_ne_true
theorem cz_4:OpR X (compareOp .NotEq) rNe:=by
 intro zd s σ H x y v u Q I rx ry h;obtain⟨hs,q⟩:=h;cases x with
 |non=>
  cases rx;cases y with
  |non=>cases ry;exact PySem.EqNone.ne_none_none (d_4 I q (by simp))
  |bl j=>cases ry;exact PySem.EqNone.ne_none_bool (d_4 I q (by simp))
  |int j=>obtain⟨t',rfl⟩:=ry;exact PySem.EqNone.ne_none_int (d_4 I q (by simp))
  |str j=>obtain⟨t',rfl⟩:=ry;exact PySem.EqNone.ne_none_str (d_4 I q (by simp))
  |_=>exact absurd (show false=true from hs) Bool.false_ne_true
 |bl i=>
  cases rx;cases y with
  |non=>cases ry;exact PySem.EqNone.ne_bool_none (d_4 I q (by simp))
  |bl j=>cases ry;exact ne_bool (d_4 I q (congrArg not ca_5))
  |str j=>obtain⟨t',rfl⟩:=ry;exact PySem.EqMixed.ne_bool_str (d_4 I q (by simp))
  |_=>exact absurd (show false=true from hs) Bool.false_ne_true
 |int i=>
  obtain⟨t,rfl⟩:=rx;cases y with
  |non=>cases ry;exact PySem.EqNone.ne_int_none (d_4 I q (by simp))
  |int j=>obtain⟨t',rfl⟩:=ry;exact ne_int (d_4 I q (congrArg not bp_5))
  |str j=>obtain⟨t',rfl⟩:=ry;exact PySem.EqMixed.ne_int_str (d_4 I q (by simp))
  |_=>exact absurd (show false=true from hs) Bool.false_ne_true
 |str i=>
  obtain⟨t,rfl⟩:=rx;cases y with
  |non=>cases ry;exact PySem.EqNone.ne_str_none (d_4 I q (by simp))
  |bl j=>cases ry;exact PySem.EqMixed.ne_str_bool (d_4 I q (by simp))
  |int j=>obtain⟨t',rfl⟩:=ry;exact PySem.EqMixed.ne_str_int (d_4 I q (by simp))
  |str j=>obtain⟨t',rfl⟩:=ry;exact ne_str (d_4 I q (congrArg not bp_6))
  |_=>exact absurd (show false=true from hs) Bool.false_ne_true
 |byt i=>
  obtain⟨t,rfl⟩:=rx;cases y with
  |byt j=>obtain⟨t',rfl⟩:=ry;exact ne_bytes (d_4 I q (congrArg not bp_7))
  |_=>exact absurd (show false=true from hs) Bool.false_ne_true
 |_=>cases y <;> exact absurd (show false=true from hs) Bool.false_ne_true
theorem cz_5:OpR X (compareOp .Lt) (rI0 fun i j=> .bl (decide (i < j))):=opB0 fun _ _ _ _ _ _ _ q=>lt_int q
theorem cz_6:OpR X (compareOp .LtE) (rI0 fun i j=> .bl (decide (i≤j))):=opB0 fun _ _ _ _ _ _ _ q=>le_int q
theorem cz_7:OpR X (compareOp .Gt) (rI0 fun i j=> .bl (decide (j < i))):=opB0 fun _ _ _ _ _ _ _ q=>gt_int q
theorem bu_9:OpR X (compareOp .In) (fun x y H Q=>∃i j,x= .str i∧y= .str j∧Q (.bl (!(Builtin.Str.occurrences j i 0 j.length 1).isEmpty)) H):=by
 intro zd s σ H x y v u Q I rx ry h;obtain⟨i,j,rfl,rfl,q⟩:=h;obtain⟨t,rfl⟩:=rx;obtain⟨t',rfl⟩:=ry;exact in_str (d_4 I q rfl)
theorem cs_9:OpR X (compareOp .Is) (fun x y H Q=>y= .non∧Q (.bl (decide (x= .non))) H):=by
 intro zd s σ H x y v u Q I rx ry h;obtain⟨rfl,q⟩:=h;cases ry;refine is_none_gen (d_4 I q ?_);cases x <;> first
  |(cases rx;rfl)
  |(obtain⟨t,rfl⟩:=rx;rfl)
theorem c_0(b:Expr){op:CmpOp}(h:op≠ .In:=by decide)(h2:op≠ .NotIn:=by decide):behindInMarks op b=false:=by
 have e1:(op ==CmpOp.In)=false:=by cases op <;> first|rfl|exact absurd rfl h
 have e2:(op ==CmpOp.NotIn)=false:=by cases op <;> first|rfl|exact absurd rfl h2
 cases b <;> simp [behindInMarks,e1,e2]
theorem cj_1{op:CmpOp}{r:R2}(ho:OpR X (compareOp op) r)(ha:PE X a ta)(hb:PE X b tb)(hm:behindInMarks op b=false):PE X (.Compare a [op] [b] pos) (tOp r ta tb):=by
 intro zd s σ H Q I h;exact wpAny_Compare1 (binT ha hb I h fun v u s2 x y H2 I2 rx ry q=>ho zd s2 σ H2 x y v u Q I2 rx ry q) hm
def cz_8(t:TE):TT:=fun σ H Q=>t σ H fun x H'=>∃k,x= .bl k∧Q k H'
theorem cj_2{op:CmpOp}{r:R2}(ho:OpR X (compareOp op) r)(ha:PE X a ta)(hb:PE X b tb)(hm:behindInMarks op b=false):PT X (.Compare a [op] [b] pos) (cz_8 (tOp r ta tb)):=by
 intro zd s σ H Q I h;refine wpAny_isTrue_Compare1 (thn (ha zd s σ H _ I h) fun v s1 ⟨x,H1,I1,r1,q1⟩=>thn (hb zd s1 σ H1 _ I1 q1) fun u s2 ⟨y,H2,I2,r2,q2⟩=>
  thn (ho zd s2 σ H2 x y v u _ I2 r1 r2 q2) fun c s3 ⟨z,H3,I3,r3,k,e,q3⟩=> ?_) hm
 subst e;cases r3;exact wpAny_truthy_bool ⟨H3,I3,q3⟩
def ca_6(r r':R2)(ta tb tc:TE):TE:=fun σ H Q=>ta σ H fun x H1=>tb σ H1 fun y H2=>r x y H2 fun z H3=>∃k,z= .bl k∧
 (if k=true then tc σ H3 fun w' H4=>r' y w' H4 Q else Q (.bl false) H3)
theorem ca_7{op op':CmpOp}{r r':R2}(ho:OpR X (compareOp op) r)(ho':OpR X (compareOp op') r')(ha:PE X a ta)(hb:PE X b tb)(hc:PE X c tc)
  (hm:lastMarks [op,op'] [b,c]=false:=by with_unfolding_all rfl):PE X (.Compare a [op,op'] [b,c] pos) (ca_6 r r' ta tb tc):=by
 intro zd s σ H Q I h;refine Compare_chain (thn (ha zd s σ H _ I h) fun v s1 ⟨x,H1,I1,r1,q1⟩=>chain_link (thn (hb zd s1 σ H1 _ I1 q1) fun u s2 ⟨y,H2,I2,r2,q2⟩=>
  thn (ho zd s2 σ H2 x y v u _ I2 r1 r2 q2) fun d s3 ⟨z,H3,I3,r3,k,e,q3⟩=> ?_)) hm
 subst e;cases r3;refine wpAny_truthy_bool ?_;cases k with
 |false=>exact ite_ff ⟨.bl false,H3,I3,rfl,q3⟩
 |true=>exact ite_tt (chain_last (thn (hc zd s3 σ H3 _ I3 q3) fun w' s4 ⟨z',H4,I4,r4,q4⟩=>ho' zd s4 σ H4 y z' u w' Q I4 r2 r4 q4))
def TruV(K:Frag)(x:V)(H:Hp)(k:Bool):Prop:=
 match x with
 | .non=>k=false
 | .bl b=>k=b
 | .int i=>k=(i != 0)
 | .str y=>y.length≤sizeLine∧k=((y.length:Int) != 0)
 | .byt y=>y.size≤sizeLine∧k=((y.size:Int) != 0)
 | .ref p=>(∃xs,SqL K H p xs∧k= !xs.isEmpty)∨(∃xs,SqT K H p xs∧k= !xs.isEmpty)∨∃kvs,H p=some (.dK kvs)∧k= !kvs.isEmpty
 |_=>False
theorem bl_3{κ:Type}{kvs:List (κ×V)}{vs:List (κ×Value)}(r:KV kvs vs):(!vs.isEmpty)= !kvs.isEmpty:=by
 cases r <;> rfl
theorem an_2{xs:List V}{its:List Value}(r:Vals xs its):(!its.toArray.isEmpty)= !xs.isEmpty:=by
 cases r <;> simp
theorem ah_0:(sizeLine:Nat) < 2 ^ 63:=by rw [sizeLine_eq];decide
theorem ct_1:TruR X (fun x H Q=>∃k,TruV X.K x H k∧Q k H):=by
 intro zd s σ H x v Q I rx h;obtain⟨k,e,q⟩:=h;have hl:=ah_0;have hs:sizeLine=16777216:=sizeLine_eq;cases x with
 |non=>
  cases rx;have e':k=false:=e;subst e';exact truthy_none ⟨H,I,q⟩
 |bl b=>
  cases rx;have e':k=b:=e;subst e';exact wpAny_truthy_bool ⟨H,I,q⟩
 |int i=>
  obtain⟨t,rfl⟩:=rx;have e':k=(i != 0):=e;subst e';exact PySem.P.truthy_int ⟨H,I,q⟩
 |str y=>
  obtain⟨t,rfl⟩:=rx;obtain⟨hy,e'⟩:y.length≤sizeLine∧k=((y.length:Int) != 0):=e;subst e';exact PySem.P.truthy_str (by omega) ⟨H,I.tok _,q⟩
 |byt y=>
  obtain⟨t,rfl⟩:=rx;obtain⟨hy,e'⟩:y.size≤sizeLine∧k=((y.size:Int) != 0):=e;subst e';exact truthy_bytes (by omega) ⟨H,I.tok _,q⟩
 |ref p=>
  cases rx;have e':(∃xs,SqL X.K H p xs∧k= !xs.isEmpty)∨(∃xs,SqT X.K H p xs∧k= !xs.isEmpty)∨∃kvs,H p=some (.dK kvs)∧k= !kvs.isEmpty:=e;rcases e' with⟨xs,hx,e'⟩|⟨xs,hx,e'⟩|⟨kvs,hx,e'⟩
  ·subst e';obtain⟨its,r,pl,hz⟩:=I.list hx;have zk:=r.length;exact wpAny_truthy_list pl.isList (by simp only [List.size_toArray];omega) ⟨H,I.tok _,by rw [an_2 r];exact q⟩
  ·subst e';obtain⟨its,r,pl,hz⟩:=I.tuple hx;have zk:=r.length;exact truthy_tuple pl (by simp only [List.size_toArray];omega) ⟨H,I.tok _,by rw [an_2 r];exact q⟩
  ·subst e';obtain⟨hz,hS,vs,r,m⟩:kvs.length≤sizeLine∧(p ==sysModules)=false∧∃vs,KV kvs vs∧s.heap.DictOf (j_8 X.prog X.w) p vs:=I.hok p _ hx;have zk:kvs.length=vs.length:=Paired.length r;exact wpAny_truthy_dict hS m (by omega) ⟨H,I.tok _,by rw [bl_3 r];exact q⟩
 |_=>exact(show False from e).elim
theorem ca_8(ha:PE X a ta)(he:∀whole,isTrue a X.env whole=(do let v←whole;standAt a.pos;holding [v] (truthy v))):
  PT X a (fun σ H Q=>ta σ H fun x H'=>∃k,TruV X.K x H' k∧Q k H'):=by
 intro zd s σ H Q I h;exact isTrue_plain (thn (ha zd s σ H _ I h) fun v s1 ⟨x,H1,I1,r1,q1⟩=>ct_1 zd s1 σ H1 x v Q I1 r1 q1) (he _)
theorem bl_4:OpR X (binaryOp .Add) (fun x y H Q=>∃i j,x= .str i∧y= .str j∧i.length + j.length≤sizeLine∧Q (.str (i ++ j)) H):=by
 intro zd s σ H x y v u Q I rx ry h;obtain⟨i,j,rfl,rfl,hz,q⟩:=h;obtain⟨t,rfl⟩:=rx;obtain⟨t',rfl⟩:=ry;exact add_str (fun t' tk=>⟨.str (i ++ j),H,I.tok _,⟨_,rfl⟩,q⟩) hz
theorem bd_8{x:V}{us:List Value}(r:Vals [x] us):∃u,us= [u]∧RelV x u:=by
 cases r with
 |cons r1 r2=>cases r2;exact⟨_,rfl,r1⟩
theorem cp_4{x y:V}{us:List Value}(r:Vals [x,y] us):∃u w',us= [u,w']∧RelV x u∧RelV y w':=by
 cases r with
 |cons r1 r2=>
  cases r2 with
  |cons r3 r4=>cases r4;exact⟨_,_,rfl,r1,r3⟩
theorem bv_0(hc:X.calm=true):w_8 X (.builtin "max") (fun xs H Q=>∃i j,xs= [.int i, .int j]∧Q (.int (if j > i then j else i)) H):=by
 intro zd s σ H xs us Q I r h;obtain⟨i,j,rfl,q⟩:=h;obtain⟨u,w',rfl,⟨t,rfl⟩,⟨t',rfl⟩⟩:=cp_4 r;refine max_two_ints (I.ok.hd hc) fun h' tk k=>⟨_,H,I.kept k, ?_,q⟩
 by_cases hj:j > i
 ·rw [if_pos hj,if_pos hj];exact⟨_,rfl⟩
 ·rw [if_neg hj,if_neg hj];exact⟨_,rfl⟩
theorem bv_1(hc:X.calm=true):w_8 X (.builtin "min") (fun xs H Q=>∃i j,xs= [.int i, .int j]∧Q (.int (if j < i then j else i)) H):=by
 intro zd s σ H xs us Q I r h;obtain⟨i,j,rfl,q⟩:=h;obtain⟨u,w',rfl,⟨t,rfl⟩,⟨t',rfl⟩⟩:=cp_4 r;refine min_two_ints (I.ok.hd hc) fun h' tk k=>⟨_,H,I.kept k, ?_,q⟩
 by_cases hj:j < i
 ·rw [if_pos hj,if_pos hj];exact⟨_,rfl⟩
 ·rw [if_neg hj,if_neg hj];exact⟨_,rfl⟩
theorem at_4:w_8 X (.type "int") (fun xs H Q=>(∃i,xs= [.int i]∧Q (.int i) H)∨∃k,xs= [.bl k]∧Q (.int (if k then 1 else 0)) H):=by
 intro zd s σ H xs us Q I r h;rcases h with⟨i,rfl,q⟩|⟨k,rfl,q⟩
 ·obtain⟨u,rfl,t,rfl⟩:=bd_8 r;exact call_int_int ⟨.int i,H,I,⟨_,rfl⟩,q⟩
 ·obtain⟨u,rfl,r1⟩:=bd_8 r;cases r1;exact call_int_bool ⟨.int (if k then 1 else 0),H,I.tok _,⟨_,rfl⟩,q⟩
end
structure ObjM(h:Heap)(x dx C:Addr)(mA:Str→Option Value):Prop where
 obj:h.get? x=some (instObj C dx)
 ns:h.Ns1 dx mA
 ne:dx≠x
theorem at_5{h:Heap}{dx:Addr}{mA:Str→Option Value}(n:h.Ns1 dx mA):∃od,h.get? dx=some od∧∀name,lookIn name od=some (mA name):=by
 obtain⟨o,es,ep,ho,hd,hk,_,hm⟩:=n;refine⟨o,ho,fun name=> ?_⟩;have e:=hm name;unfold nsFind findBy at e;rw [←Array.find?_toList] at e;unfold lookIn;rw [hd];dsimp only
 split
 ·rename_i y q;rw [q] at e;exact congrArg some e
 ·rename_i q;rw [q] at e;have a:es.toList.any (·.refKey)=false:=by
   rw [List.any_eq_false];intro y hy;obtain⟨z,t,dm⟩:=hk y (Array.mem_toList_iff.mp hy);simp [DictEntry.refKey,dm]
  have a':¬es.toList.any (·.refKey)=true:=by rw [a];exact Bool.false_ne_true
  rw [if_neg a'];exact congrArg some e
theorem ObjM.look{h:Heap}{x dx C:Addr}{mA:Str→Option Value}(I:ObjM h x dx C mA):∃od,InstAt h x (instObj C dx) C (some od)∧∀name,lookIn name od=some (mA name):=
 let⟨od,ho,hl⟩:=at_5 I.ns
 ⟨od,⟨I.obj,rfl,rfl,ho⟩,hl⟩
section
variable{prog:Program}{w:World}{A:Around}{E:Value→Shared→Prop}{s:Shared}{K:Frag}{x dx C f:Addr}{mA:Str→Option Value}{name:Str}{v:Value}
theorem cj_3{expr:Bool}{Q:Value→Shared→Prop}(X:K.In s.heap)(I:ObjM s.heap x dx C mA)(hg:plainGet K C name=true)(hh:hasDictIn K C=true)
  (ha:findIn K (.ref C) name=some none) (hv:mA name=some v) (hv':handedIn v=true) (h:Q v {s with toks:=s.toks + 1}):
  wpAny (model prog w) A (getAttr (.ref x) name expr) Q E s:=by
 obtain⟨od,J,hl⟩:=I.look;exact get_value X J (plainGet_of hg).1 (findObj_own hh ha rfl (by rw [hl,hv])) hv' h
theorem ca_9{pl:Sem Bool}{Q:Value×List Value→Shared→Prop}(X:K.In s.heap)(I:ObjM s.heap x dx C mA)(hg:plainGet K C name=true)
  (hf:findIn K (.ref C) name=some (some (.ref f))) (ht:isFn K (.ref f)=true) (hv:mA name=none) (h:Q (.ref f, [.ref x]) s):
  wpAny (model prog w) A (getMethod (.ref x) name pl) Q E s:=by
 obtain⟨od,J,hl⟩:=I.look;exact method_fn X J (plainGet_of hg).1 (plainGet_of hg).2 hf (beq_iff_eq.mp ht) (by show(lookIn name od).map (·.isSome)=some false;rw [hl,hv];rfl) h
theorem cj_4{ns:List Str}{Q:Unit→Shared→Prop}(X:K.In s.heap)(I:ObjM s.heap x dx C mA)
  (hs:findIn K (.ref C) "__setattr__" =some (some (.builtin "object.__setattr__"))) (hp:plainOver K C=true) (ht:takerIn K C name=some none) (hh:hasDictIn K C=true)
  (hw:PySem.Within mA ns) (hsz:ns.length≤sizeLine)
  (h:∀h',ObjM h' x dx C (fun y=>if y=name then some v else mA y)→Heap.SameBut dx s.heap h'→Q () {s with heap:=h',toks:=s.toks + 2}):
  wpAny (model prog w) A (setAttr (.ref x) name v) Q E s:=by
 obtain⟨od,J,hl⟩:=I.look;refine set_plain X J hs (osa_open (s:={s with toks:=s.toks + 1}) (r:=none) X J hp ht fun b=> ?_);obtain⟨cd,hc,hd'⟩:=any_some hh;have hx:s.heap.get? x=some ⟨.ref C,some dx, .plain, #[]⟩:=I.obj;refine wpAny_bind (wpAny_pure (wpAny_bind (wpAny_bind (wpAny_loadPart hx (wpAny_bind (Looks.here (s:={s with toks:=s.toks + 1}) (looks_clsIn X hc) ?_))))));rw [hd'];refine wpAny_pure (a:=some dx) (wpAny_bind (wpAny_pure (wpAny_bind ?_)));refine wpAny_nsSet1 (s:={s with toks:=s.toks + 1}) I.ns fun h' hn2 hs2=> ?_;obtain⟨oD,esD,epD,hoD,hdD,hcD⟩:=hn2.count (PySem.Within.cons name v hw);refine wpAny_bind (wpAny_lookBehind hoD (by rw [hdD];exact pastItsLine_dict (Nat.le_trans hcD (by rw [List.length_cons];omega))) ?_);exact wpAny_pure (h _ ⟨(hs2.2 _ (Ne.symm I.ne)).trans I.obj,hn2,I.ne⟩ hs2)
theorem cb_0{R:Result→Shared→Prop}{vs:List Value}{kw:List (Str×Value)}(X:K.In s.heap)(hm:makesIn K C=true)
  (hi:findIn K (.ref C) "__init__" =some (some (.ref f))) (hf:typeIn K (.ref f)=some (.type "function"))
  (h:codeAny (model prog w) (A.under (.builtin "type.__call__" ⟨.ref C::vs,kw⟩)) (.call (.ref f) ⟨.ref (s.heap.objs.size + 1)::vs,kw⟩) (InitBack (s.heap.objs.size + 1) R)
   {s with heap:=(s.heap.push emptyDict).push (instObj C s.heap.objs.size)}):
  codeAny (model prog w) A (.call (.ref C) ⟨vs,kw⟩) R s:=by
 obtain⟨hh,g,d,t,os⟩:=s;exact make_core (makes_of X hm) (looks_findIn X hi) (fun self=>bind_fn X self hf) (.inl rfl) h
end
def v_6(f:Str)(v:V):List (Str×V)→List (Str×V)
 | []=> [(f,v)]
 |(g,x)::r=>if g=f then(g,v)::r else(g,x)::v_6 f v r
theorem aj_1(f g:Str)(v:V):∀fs:List (Str×V),(v_6 f v fs).lookup g=if g=f then some v else fs.lookup g
 | []=>by
  show List.lookup g [(f,v)]=_
  by_cases h:g=f
  ·have hb:(g ==f)=true:=beq_iff_eq.mpr h;simp only [List.lookup,hb,if_pos h]
  ·have hb:(g ==f)=false:=beq_eq_false_iff_ne.mpr h;simp only [List.lookup,hb,if_neg h]
 |(k,x)::r=>by
  have ih:=aj_1 f g v r;rw [show v_6 f v ((k,x)::r)=(if k=f then(k,v)::r else(k,x)::v_6 f v r) from rfl]
  by_cases hk:k=f
  ·rw [if_pos hk]
   by_cases h:g=k
   ·have hb:(g ==k)=true:=beq_iff_eq.mpr h;simp only [List.lookup,hb,if_pos (h.trans hk)]
   ·have hb:(g ==k)=false:=beq_eq_false_iff_ne.mpr h;simp only [List.lookup,hb,if_neg (fun e:g=f=>h (e.trans hk.symm))]
  ·rw [if_neg hk]
   by_cases h:g=k
   ·have hb:(g ==k)=true:=beq_iff_eq.mpr h;simp only [List.lookup,hb,if_neg (fun e:g=f=>hk (h.symm.trans e))]
   ·have hb:(g ==k)=false:=beq_eq_false_iff_ne.mpr h;simp only [List.lookup,hb];exact ih
theorem ah_1(f:Str)(v:V):∀fs:List (Str×V),f∈(v_6 f v fs).map (·.1)∧∀g,g∈fs.map (·.1)→g∈(v_6 f v fs).map (·.1)
 | []=>⟨by simp [v_6],fun g h=>by simp at h⟩
 |(k,x)::r=>by
  obtain⟨i1,i2⟩:=ah_1 f v r;rw [show v_6 f v ((k,x)::r)=(if k=f then(k,v)::r else(k,x)::v_6 f v r) from rfl]
  by_cases hk:k=f
  ·rw [if_pos hk];subst hk;exact⟨by simp,fun g h=>by simpa using h⟩
  ·rw [if_neg hk];refine⟨?_,fun g h=> ?_⟩
   ·rw [List.map_cons];exact List.mem_cons_of_mem _ i1
   ·rw [List.map_cons] at h⊢;rcases List.mem_cons.mp h with e|e
    ·exact List.mem_cons.mpr (.inl e)
    ·exact List.mem_cons_of_mem _ (i2 g e)
theorem aj_2(f:Str)(v:V):∀fs:List (Str×V),(v_6 f v fs).length≤fs.length + 1
 | []=>by simp [v_6]
 |(k,x)::r=>by
  have ih:=aj_2 f v r;rw [show v_6 f v ((k,x)::r)=(if k=f then(k,v)::r else(k,x)::v_6 f v r) from rfl]
  by_cases hk:k=f
  ·rw [if_pos hk,List.length_cons,List.length_cons];omega
  ·rw [if_neg hk,List.length_cons,List.length_cons];omega
theorem RelO.some_of{v:V}{o:Option Value}(r:RelO (some v) o):∃u,o=some u∧RelV v u:=by
 cases o with
 |none=>exact(show False from r).elim
 |some u=>exact⟨u,rfl,r⟩
theorem RelO.none_of{o:Option Value}(r:RelO none o):o=none:=by
 cases o with
 |none=>rfl
 |some u=>exact(show False from r).elim
theorem at_6{v:V}{u:Value}(r:RelV v u):handedIn u=true:=by
 cases v with
 |non=>cases(show u=Value.none from r);rfl
 |bl b=>cases(show u=Value.bool b from r);rfl
 |int i=>obtain⟨t,e⟩:=(show∃t,u=Value.int i t from r);cases e;rfl
 |str x=>obtain⟨t,e⟩:=(show∃t,u=Value.str x t from r);cases e;rfl
 |byt b=>obtain⟨t,e⟩:=(show∃t,u=Value.bytes b t from r);cases e;rfl
 |flt b=>obtain⟨t,e⟩:=(show∃t,u=Value.float b t from r);cases e;rfl
 |ref a=>cases(show u=Value.ref a from r);rfl
 |ty n=>cases(show u=Value.type n from r);rfl
section
variable{P:Program}{w:World}{H H':Hp}{h h':Heap}{a C dx:Addr}{fs fs':List (Str×V)}
theorem aw_9(hok:HOk P w H h)(e:H a=some (.ins C dx fs)):∃mA,ObjM h a dx C mA∧(∀f,RelO (fs.lookup f) (mA f))∧PySem.Within mA (fs.map (·.1))∧fs.length≤1000∧H dx=some (.own a):=by
 obtain⟨d,z,ne,ob,mA,n,r,q⟩:=(show ObjOk P w H h a (.ins C dx fs) from hok a _ e);exact⟨mA,⟨ob,n,ne⟩,r,q,z,d⟩
end
structure Cls(K:Frag)(C:Addr):Prop where
 pg:plainGet K C Str.empty=true
 hd:hasDictIn K C=true
 po:plainOver K C=true
 sa:findIn K (.ref C) "__setattr__" =some (some (.builtin "object.__setattr__"))
theorem Cls.get{K:Frag}{C:Addr}(c:Cls K C)(f:Str):plainGet K C f=true:=c.pg
def NoAttr(K:Frag)(C:Addr)(f:Str):Prop:=findIn K (.ref C) f=some none
theorem NoAttr.taker{K:Frag}{C:Addr}{f:Str}(n:NoAttr K C f):takerIn K C f=some none:=by
 unfold takerIn;rw [show findIn K (.ref C) f=some none from n];rfl
structure Con(K:Frag)(C:Addr)(f:Str)(v:V)(u:Value):Prop where
 at_:findIn K (.ref C) f=some (some u)
 rel:RelV v u
 get:specialIn K u "__get__" =some none
 cp:PySem.W.copiedNames.contains f=false
structure Meth(K:Frag)(C:Addr)(m:Str)(f:Addr):Prop where
 at_:findIn K (.ref C) m=some (some (.ref f))
 fn:isFn K (.ref f)=true
 kp:keepIn K (.ref f)=true
section
variable{X:Cx}{zd:List (Addr×Obj)}{σ:St}{H:Hp}{s:Shared}{a C dx:Addr}{fs:List (Str×V)}{f:Str}{v:V}{A:Around}{E:Value→Shared→Prop}
theorem bl_5{b:Bool}{Q:Value→Shared→Prop}(I:Inv X zd σ H s)(e:H a=some (.ins C dx fs))(c:Cls X.K C)(n:NoAttr X.K C f)(l:fs.lookup f=some v)
  (h:∀u s',Inv X zd σ H s'→RelV v u→Q u s'):wpAny (model X.prog X.w) A (getAttr (.ref a) f b) Q E s:=by
 obtain⟨mA,O,r,_,_,_⟩:=aw_9 I.hok e;obtain⟨u,hu,ru⟩:=RelO.some_of (v:=v) (o:=mA f) (by rw [←l];exact r f);exact cj_3 I.kIn O (c.get f) c.hd n hu (at_6 ru) (h u _ (I.tok _) ru)
theorem bl_6{m:Str}{g:Addr}{pl:Sem Bool}{Q:Value×List Value→Shared→Prop}(I:Inv X zd σ H s)(e:H a=some (.ins C dx fs))(c:Cls X.K C)(k:Meth X.K C m g)(l:fs.lookup m=none)
  (h:Q (.ref g, [.ref a]) s):wpAny (model X.prog X.w) A (getMethod (.ref a) m pl) Q E s:=by
 obtain⟨mA,O,r,_,_,_⟩:=aw_9 I.hok e;have hn:mA m=none:=RelO.none_of (by rw [←l];exact r m);exact ca_9 I.kIn O (c.get m) k.at_ k.fn hn h
theorem bl_7{y:V}{u:Value}{Q:Unit→Shared→Prop}(I:Inv X zd σ H s)(e:H a=some (.ins C dx fs))(c:Cls X.K C)(n:NoAttr X.K C f)(hl:fs.length < 1000)(ry:RelV y u)
  (h:∀s',Inv X zd σ (upd H a (.ins C dx (v_6 f y fs))) s'→Q () s'):wpAny (model X.prog X.w) A (setAttr (.ref a) f u) Q E s:=by
 obtain⟨mA,O,r,wi,_,ho⟩:=aw_9 I.hok e;have hz:(fs.map (·.1)).length≤sizeLine:=by rw [List.length_map,sizeLine_eq];omega
 refine cj_4 I.kIn O c.sa c.po n.taker c.hd wi hz fun h' O' sb=>h _ ?_;have hd:∃o,h'.get? dx=some o:=let⟨o,_,_,e',_⟩:=O'.ns;⟨o,e'⟩;refine I.write (x:=a) (e:=dx) (by rw [e];exact True.intro) (.inr ho) (fun b q hb z=>(sb.2 b hb).trans z) hd ?_;refine⟨by rw [b_1 O.ne];exact ho, ?_,O.ne,O'.obj,_,O'.ns,fun g=> ?_,fun g hg=> ?_⟩
 ·have:=aj_2 f y fs;omega
 ·show RelO ((v_6 f y fs).lookup g) (if g=f then some u else mA g);rw [aj_1]
  by_cases q:g=f
  ·rw [if_pos q,if_pos q];exact ry
  ·rw [if_neg q,if_neg q];exact r g
 ·by_cases q:g=f
  ·rw [q];exact(ah_1 f y fs).1
  ·refine(ah_1 f y fs).2 g (wi g fun z=>hg ?_);show(if g=f then some u else mA g)=none;rw [if_neg q];exact z
theorem Inv.made(I:Inv X zd σ H s):Inv X zd σ (upd (upd H s.heap.objs.size (.own (s.heap.objs.size + 1))) (s.heap.objs.size + 1) (.ins C s.heap.objs.size []))
  {s with heap:=(s.heap.push emptyDict).push (instObj C s.heap.objs.size)}:=by
 have e1:(s.heap.push emptyDict).get? s.heap.objs.size=some emptyDict:=Heap.get?_push_size s.heap rfl;have e2:((s.heap.push emptyDict).push (instObj C s.heap.objs.size)).get? (s.heap.objs.size + 1)=some (instObj C s.heap.objs.size):=by
  have:=Heap.get?_push_size (s.heap.push emptyDict) (o:=instObj C s.heap.objs.size) rfl
  rwa [Heap.size_push] at this
 have e3:(s.heap.push emptyDict).Ns s.heap.objs.size (fun _=>none):=⟨emptyDict, #[],_,e1,rfl,(fun e he=>absurd he (by simp)),fun _=>rfl⟩;have I1:=I.laid (a:=s.heap.objs.size) (o:= .own (s.heap.objs.size + 1)) (h':=s.heap.push emptyDict) (t':=s.toks) (fun b u q=>Heap.get?_push_of_some _ q) (Nat.le_refl _) ⟨_,e1⟩;refine I1.laid (a:=s.heap.objs.size + 1) (o:= .ins C s.heap.objs.size []) (t':=s.toks) (fun b u q=>Heap.get?_push_of_some _ q) (Nat.le_of_eq (Heap.size_push _ _)) ?_;have ne:s.heap.objs.size≠s.heap.objs.size + 1:=Nat.ne_of_lt (Nat.lt_succ_self _);refine⟨by rw [b_1 ne,b_4],Nat.zero_le _,ne,e2,fun _=>none,(Heap.Ns1.of_empty e3).at fun o q=>Heap.get?_push_of_some _ q,fun _=>True.intro,fun y hy=>absurd rfl hy⟩
theorem bp_8{prog:Program}{w:World}{env:Env}{e:Expr}{f:Str}{pos:Pos}{s:Shared}{Q:Value→Shared→Prop}(hb:attributeBase e f env (eval e env)=eval e env)
  (h:wpAny (model prog w) A (eval e env) (fun o s₁=>wpAny (model prog w) A (getAttr o f true) Q E s₁) E s):wpAny (model prog w) A (eval (.Attribute e f pos) env) Q E s:=
 Attribute_any_ h (by rw [arm_eval_Attribute,hb])
end
def tFld(K:Frag)(ta:TE)(f:Str):TE:=fun σ H Q=>ta σ H fun x H1=>∃a C dx fs v,x= .ref a∧H1 a=some (.ins C dx fs)∧Cls K C∧NoAttr K C f∧fs.lookup f=some v∧Q v H1
def sFld(K:Frag)(ta tv:TE)(f:Str):TS:=fun D σ H=>tv σ H fun y H1=>ta σ H1 fun x H2=>∃a C dx fs,x= .ref a∧H2 a=some (.ins C dx fs)∧Cls K C∧NoAttr K C f∧fs.length < 1000∧
 D.nx σ (upd H2 a (.ins C dx (v_6 f y fs)))
section
variable{X:Cx}{o e value:Expr}{f:Str}{pos pos' zi:Pos}{ta tv:TE}
theorem ct_2(he:PE X e ta)(hb:attributeBase e f X.env (eval e X.env)=eval e X.env):PE X (.Attribute e f pos) (tFld X.K ta f):=by
 intro zd s σ H Q I h;refine bp_8 hb (thn (he zd s σ H _ I h) fun u s1 ⟨x,H1,I1,rx,a,C,dx,fs,v,ex,ea,c,n,l,q⟩=> ?_);subst ex;obtain rfl:u=Value.ref a:=rx;exact bl_5 I1 ea c n l fun u' s2 I2 ru=>⟨v,H1,I2,ru,q⟩
theorem ct_3(ha:PE X o ta)(hv:PE X value tv)(hs:swapsWith value (some (.Attribute o f pos')) pos.line X.env=pure false):PS X (.Assign [.Attribute o f pos'] value pos) (sFld X.K ta tv f):=by
 intro zd s σ H D I h;refine plainObj_wpAny_Assign_Attribute (thn (hv zd s σ H _ I h) fun u s1 ⟨y,H1,I1,ry,q⟩=>thn (ha zd s1 σ H1 _ I1 q) fun ov s2 ⟨x,H2,I2,rx,a,C,dx,fs,ex,ea,c,n,l,q2⟩=> ?_) hs;subst ex;obtain rfl:ov=Value.ref a:=rx;exact bl_7 I2 ea c n l ry fun s3 I3=>⟨σ,_,I3,q2⟩
end
section
variable{X:Cx}{zd:List (Addr×Obj)}{σ:St}{H:Hp}{s:Shared}{A:Around}{E:Value→Shared→Prop}{Q:Value→Shared→Prop}{c:Value}{b:Bool}
inductive TyOf(K:Frag)(H:Hp):V→Value→Prop where
 |non:TyOf K H .non (.type "NoneType")
 |bl (x:Bool):TyOf K H (.bl x) (.type "bool")
 |int (i:Int):TyOf K H (.int i) (.type "int")
 |str (x:Str):TyOf K H (.str x) (.type "str")
 |flt (x:UInt64):TyOf K H (.flt x) (.type "float")
 |lst {a:Addr} {xs:List V} (e:H a=some (.lst xs)):TyOf K H (.ref a) (.type "list")
 |frz {a:Addr} {o:Obj} {xs:List V} (e:H a=some (.frz o (.lst xs))):TyOf K H (.ref a) (.type "list")
 |tup {a:Addr} {xs:List V} (e:H a=some (.tup xs)):TyOf K H (.ref a) (.type "tuple")
 |dK {a:Addr} {kvs:List (Key×V)} (e:H a=some (.dK kvs)):TyOf K H (.ref a) (.type "dict")
 |dT {a:Addr} {kvs:List (List Key×V)} (e:H a=some (.dT kvs)):TyOf K H (.ref a) (.type "dict")
 |ins {a C dx:Addr} {fs:List (Str×V)} (e:H a=some (.ins C dx fs)) (cl:Cls K C) (ha:findIn K (.ref C) "__class__" =some (some (.builtin "object.__class__")))
   (hn:specialIn K (.builtin "object.__class__") "__get__" =some (some (.builtin "getset_descriptor.__get__"))) (htk:takesIn K (.builtin "object.__class__")=some true)
   (hm:mroIn K C (.type "object")=some true):TyOf K H (.ref a) (.ref C)
end
structure Room(k:Nat)(A:Around):Prop where
 hd:A.handled=none
 dp:A.depth + 3 * k + 5 < recursionLimit
 un:A.units + 16 * k + 200 < cLine
theorem Room.in1{k:Nat}{A:Around}(r:Room (k + 1) A):Room k A.in1:=
 ⟨r.hd,by have:=r.dp;show A.depth + 3 * k + 5 < _;omega,by have:=r.un;show A.units + 1 + 16 * k + 200 < _;omega⟩
theorem bl_8{A:Around}{C:Addr}{us:List Value}{kw:List (Str×Value)}:(A.under (.builtin "type.__call__" ⟨.ref C::us,kw⟩)).depth=A.depth + 1:=by
 first|rfl|simp [Around.under,Code.weight,Code.isCreation,Code.isGuard,Code.isCaller,Code.frames,Code.isFrame,guardIds]
theorem bl_9{A:Around}{C:Addr}{us:List Value}{kw:List (Str×Value)}:(A.under (.builtin "type.__call__" ⟨.ref C::us,kw⟩)).units=A.units + 1:=by
 first|rfl|simp [Around.under,Code.cUnits,Code.frames,Code.isFrame]
theorem Room.depth{k:Nat}{A:Around}(r:Room k A):A.depth < recursionLimit:=by have:=r.dp;omega
def tNil:TA:=fun _ H Q=>Q [] H
def cz_9(ta:TE)(tr:TA):TA:=fun σ H Q=>ta σ H fun x H1=>tr σ H1 fun xs H2=>Q (x::xs) H2
section
variable{X:Cx}{e:Expr}{es:List Expr}{te:TE}{t:TA}{pos:Pos}
theorem t_1:PA X [] tNil:=fun _ _ _ _ H Q I h=>Calls.spliced_nil ⟨[],H,I, .nil,h⟩
theorem i_7(ha:PE X e te)(hr:PA X es t)(hs:starEach (e::es) X.env=(false,eval e X.env)::starEach es X.env:=by rfl):PA X (e::es) (cz_9 te t):=by
 intro pos zd s σ H Q I h;rw [hs];show wpAny _ _ (spliced ((false,eval e X.env)::backTo pos (starEach es X.env))) _ _ s;refine Calls.spliced_cons (thn (ha zd s σ H _ I h) fun u s1 ⟨x,H1,I1,r1,q1⟩=> ?_);exact thn (hr pos zd s1 σ H1 _ I1 q1) fun us s2 ⟨xs,H2,I2,r2,q2⟩=>⟨x::xs,H2,I2, .cons r1 r2,q2⟩
def tTup(t:TA):TE:=fun σ H Q=>t σ H fun xs H1=>xs.length≤sizeLine∧∀p,H1 p=none→Q (.ref p) (upd H1 p (.tup xs))
def tLst(t:TA):TE:=fun σ H Q=>t σ H fun xs H1=>xs.length≤sizeLine∧∀p,H1 p=none→Q (.ref p) (upd H1 p (.lst xs))
theorem cb_1{x1}(h:PA X es t):PE X (.Tuple es x1 pos) (tTup t):=by
 intro zd s σ H Q I hq;refine wpAny_Tuple_spliced (thn (h pos zd s σ H _ I hq) fun us s1 ⟨xs,H1,I1,r,z,q⟩=>⟨by rw [←r.length];exact z, ?_⟩);have hf:H1 s1.heap.objs.size=none:=I1.hok.fresh (Nat.le_refl _);refine⟨.ref s1.heap.objs.size,upd H1 s1.heap.objs.size (.tup xs),I1.laid (t':=s1.toks) (fun b u e=>Heap.get?_push_of_some _ e) (Nat.le_refl _) ?_,rfl,q _ hf⟩;exact⟨z,us,r,⟨_,Heap.get?_push_size _ rfl,rfl,_,rfl⟩⟩
theorem cb_2(h:PA X es t):PE X (.List es pos) (tLst t):=by
 intro zd s σ H Q I hq;refine wpAny_List_spliced (thn (h pos zd s σ H _ I hq) fun us s1 ⟨xs,H1,I1,r,z,q⟩=>⟨by rw [←r.length];exact z, ?_⟩);have hf:H1 s1.heap.objs.size=none:=I1.hok.fresh (Nat.le_refl _);refine⟨.ref s1.heap.objs.size,upd H1 s1.heap.objs.size (.lst xs),I1.laid (t':=s1.toks) (fun b u e=>Heap.get?_push_of_some _ e) (Nat.le_refl _) ?_,rfl,q _ hf⟩;exact⟨z,us,0,r,Heap.get?_push_size _ rfl⟩
end
abbrev Sp:=List V→Hp→VK→XK→Prop
abbrev CXT:=List Env→Hp→Shared→XK→Value→Shared→Prop
structure Env0(P:Program)(w:World)(K:Frag)(mg:Str→Option Value)(base:Heap)(A:Around)(outer:List Env)(s:Shared)(H:Hp):Prop where
 frames:A.frames=some outer
 mod:Mod K mg base
 bs:∀b o,base.get? b=some o→s.heap.get? b=some o∧H b=none
 bsz:base.objs.size≤s.heap.objs.size
 funs:s.heap.FunFrames base outer
 frf:∀b∈frs outer,H b=none
 hok:HOk P w H s.heap
 bare:AllBare s.gens
def CE(outer:List Env)(P:Program)(w:World)(H:Hp)(s:Shared)(Q:VK)(u:Value)(s':Shared):Prop:=
 ∃v H',s'.os=s.os∧AllBare s'.gens∧Un (frs outer) [] H H' s.heap s'.heap∧HOk P w H' s'.heap∧RelV v u∧Q v H'
def CR(CX:CXT)(outer:List Env)(P:Program)(w:World)(H:Hp)(s:Shared)(Q:VK)(E:XK)(r:Result)(s':Shared):Prop:=
 match r with
 | .ok (.ret u)=>CE outer P w H s Q u s'
 | .ok _=>False
 | .error e=>CX outer H s E e s'
structure FnOk(P:Program)(w:World)(K:Frag)(mg:Str→Option Value)(base:Heap)(CX:CXT)(k:Nat)(f:Addr)(fd:FuncData)(ps:List Str)(sp:Sp):Prop where
 len:∀vs H Q E,sp vs H Q E→vs.length=ps.length
 run:∀(A:Around) (outer:List Env) (s:Shared) (H:Hp) (args:Args) (us:List Value) (vs:List V) (Q:VK) (E:XK),Room k A→Env0 P w K mg base A outer s H→BindsTo s fd args (ps.zip us)→Vals vs us→sp vs H Q E→
  codeAny (model P w) A (.call (.ref f) args) (CR CX outer P w H s Q E) s
theorem Env0.make{P:Program}{w:World}{K:Frag}{mg:Str→Option Value}{base:Heap}{A:Around}{outer:List Env}{s:Shared}{H:Hp}(e:Env0 P w K mg base A outer s H)(C:Addr)(us:List Value)(kw:List (Str×Value)):
  Env0 P w K mg base (A.under (.builtin "type.__call__" ⟨.ref C::us,kw⟩)) outer s H:=⟨by first|exact e.frames|(simpa [Around.under,Code.envs,Code.isFrame,pushEnvs] using e.frames),e.mod,e.bs,e.bsz,e.funs,e.frf,e.hok,e.bare⟩
theorem Env0.in1{P:Program}{w:World}{K:Frag}{mg:Str→Option Value}{base:Heap}{A:Around}{outer:List Env}{s:Shared}{H:Hp}(e:Env0 P w K mg base A outer s H):
  Env0 P w K mg base A.in1 outer s H:=⟨e.frames,e.mod,e.bs,e.bsz,e.funs,e.frf,e.hok,e.bare⟩
section
variable{X:Cx}{zd:List (Addr×Obj)}{σ:St}{H:Hp}{s s':Shared}
theorem Inv.env0(I:Inv X zd σ H s):Env0 X.prog X.w X.K X.mg X.base X.A X.stack s H:=
 ⟨I.ok.frames,I.ok.mod,I.bs,Nat.le_trans I.ok.bsz I.sz,I.stack,I.stkFree,I.hok,I.bare⟩
theorem Inv.after{Q:VK}{u:Value}(I:Inv X zd σ H s)(h:CE X.stack X.prog X.w H s Q u s'):EP X zd σ Q u s':=by
 obtain⟨v,H',os,bare,un,hok,r,q⟩:=h;obtain⟨hh,g,d,t,os'⟩:=s';obtain rfl:os'=s.os:=os;exact⟨v,H',I.call (h':=hh) (g':=g) (d':=d) (t':=t) (ch:= []) un hok bare (fun b z=>absurd z (by simp)),r,q⟩
end
def Binds(K:Frag)(fd:FuncData)(ps:List Str)(ds:List Value):Prop:=
 ∀(s:Shared) (us:List Value),K.In s.heap→(us ++ ds).length=ps.length→BindsTo s fd ⟨us, []⟩ (ps.zip (us ++ ds))
theorem Binds.all{K:Frag}{fd:FuncData}{ps:List Str}(h:∀us:List Value,us.length=ps.length→bindArgs fd ⟨us, []⟩=pure (ps.zip us)):Binds K fd ps []:=fun s us _ hl=>by
 rw [List.append_nil] at hl⊢;exact .of_eq (h us hl)
section
variable{X:Cx}{CX:CXT}{k:Nat}{f C:Addr}{fd:FuncData}{ps:List Str}{sp:Sp}{dvs:List V}{ds:List Value}{E:XK}{x m:Str}{p pos zh:Pos}{e o:Expr}{es:List Expr}{ta:TE}{t:TA}
structure Mk(K:Frag)(C f:Addr):Prop where
 makes:makesIn K C=true
 init:findIn K (.ref C) "__init__" =some (some (.ref f))
 fn:isFn K (.ref f)=true
 kp:keepIn K (.ref C)=true
end
section
variable{X:Cx}{CX:CXT}{k:Nat}{f C:Addr}{fd:FuncData}{ps ks:List Str}{sp:Sp}{E:XK}{x m:Str}{p pos zh ft:Pos}{e o:Expr}{es:List Expr}{kws:List Keyword}{te ta:TE}{t tk:TA}{nm:Option Str}
structure KBinds(K:Frag)(fd:FuncData)(ps ks:List Str)(g:List Value→List Value→List Value)(gV:List V→List V→List V):Prop where
 to:∀(s:Shared) (us ws:List Value),K.In s.heap→(g us ws).length=ps.length→BindsTo s fd ⟨us,ks.zip ws⟩ (ps.zip (g us ws))
 rel:∀{vs:List V} {us:List Value} {zs:List V} {ws:List Value},Vals vs us→Vals zs ws→Vals (gV vs zs) (g us ws)
variable{g:List Value→List Value→List Value}{gV:List V→List V→List V}
end
structure FnScope(N P:List Str)(sc:Scope):Prop where
 kind:sc.kind= .function
 co:sc.isCoroutine=false
 gen:sc.isGenerator=false
 nd:N.Nodup
 pre:N.take P.length=P
 par:∀x∈P,sc.names.lookup x=some .local∨sc.names.lookup x=some .cell
 nofree:∀y∈sc.names,y.2≠ .free
theorem at_7{kindOf:Str→Option NameKind}{x:Str}:∀{binds:List (Str×Value)} {m:Str→Option Value},(∀v,(x,v)∉binds)→bindL kindOf binds m x=m x
 | [],_,_=>rfl
 |(n,v)::r,m,h=>by
  unfold bindL;rw [at_7 fun w hw=>h w (List.mem_cons_of_mem _ hw)]
  split
  ·have:x≠n:=by rintro rfl;exact h v List.mem_cons_self
   simp [this]
  ·rfl
theorem at_8{kindOf:Str→Option NameKind}{x:Str}:∀{binds:List (Str×Value)} {m:Str→Option Value},(∀v,(x,v)∉binds)→bindC kindOf binds m x=m x
 | [],_,_=>rfl
 |(n,v)::r,m,h=>by
  unfold bindC;rw [at_8 fun w hw=>h w (List.mem_cons_of_mem _ hw)]
  split
  ·rfl
  ·have:x≠n:=by rintro rfl;exact h v List.mem_cons_self
   simp [this]
theorem at_9{kindOf:Str→Option NameKind}{x:Str}{v:Value}:∀{P:List Str} {vs:List Value} {i:Nat} {m:Str→Option Value},P.Nodup→P[i]? =some x→vs[i]? =some v→kindOf x=some .local→
  bindL kindOf (P.zip vs) m x=some v
 | [],_,_,_,_,h,_,_=>by simp at h
 |_::_, [],_,_,_,_,h,_=>by simp at h
 |p::P,w::vs,0,m,nd,h1,h2,hk=>by
  simp at h1 h2;subst h1;subst h2;show bindL kindOf ((p,w)::P.zip vs) m p=_;unfold bindL;rw [at_7 fun v hv=>(List.nodup_cons.mp nd).1 (List.of_mem_zip hv).1,if_pos hk];simp
 |p::P,w::vs,i + 1,m,nd,h1,h2,hk=>by
  show bindL kindOf ((p,w)::P.zip vs) m x=_;unfold bindL;exact at_9 (i:=i) (List.nodup_cons.mp nd).2 (by simpa using h1) (by simpa using h2) hk
theorem au_0{kindOf:Str→Option NameKind}{x:Str}{v:Value}:∀{P:List Str} {vs:List Value} {i:Nat} {m:Str→Option Value},P.Nodup→P[i]? =some x→vs[i]? =some v→kindOf x≠some .local→
  bindC kindOf (P.zip vs) m x=some v
 | [],_,_,_,_,h,_,_=>by simp at h
 |_::_, [],_,_,_,_,h,_=>by simp at h
 |p::P,w::vs,0,m,nd,h1,h2,hk=>by
  simp at h1 h2;subst h1;subst h2;show bindC kindOf ((p,w)::P.zip vs) m p=_;unfold bindC;rw [at_8 fun v hv=>(List.nodup_cons.mp nd).1 (List.of_mem_zip hv).1,if_neg hk];simp
 |p::P,w::vs,i + 1,m,nd,h1,h2,hk=>by
  show bindC kindOf ((p,w)::P.zip vs) m x=_;unfold bindC;exact au_0 (i:=i) (List.nodup_cons.mp nd).2 (by simpa using h1) (by simpa using h2) hk
def m_5(N:List Str)(vs:List V):St:=vs.map some ++ List.replicate (N.length - vs.length) none
def cxOf(CX:CXT)(P:Program)(w:World)(K:Frag)(mg:Str→Option Value)(base:Heap)(N:List Str)(qual:Str)(scope:Scope)(f:Addr)(cd:Value)(A:Around)(outer:List Env)(s:Shared)(H:Hp)(E:XK):Cx where
 prog:=P
 w:=w
 K:=K
 mg:=mg
 base:=base
 A:=A.deeper (envOfC qual scope s.heap.objs.size f cd)
 N:=N
 s₀:=s
 H₀:=H
 env:=envOfC qual scope s.heap.objs.size f cd
 outer:=outer
 stack:=envOfC qual scope s.heap.objs.size f cd::outer
 ex:= []
 calm:=true
 fn:=fun _=>true
 pn:= []
 xe:=fun e s'=>wpAny (model P w) (A.deeper (envOfC qual scope s.heap.objs.size f cd)) (leaving (envOfC qual scope s.heap.objs.size f cd) e) (fun _ s''=>CX outer H s E e s'') (fun e' s''=>CX outer H s E e' s'') s'
theorem bd_9{sc:Scope}{n:Nat}{x:Str}(h:sc.names.lookup x=some .cell):∃c,(cellsFrom n sc.names []).lookup x=some c:=by
 have q:=cellsFrom_some sc.names n [] (.inl h);exact Option.isSome_iff_exists.mp q
theorem bv_2{CX:CXT}{P:Program}{w:World}{K:Frag}{mg:Str→Option Value}{base:Heap}{N ps:List Str}{qual:Str}{scope:Scope}{f:Addr}{cd:Value}{A:Around}{outer:List Env}{s s1:Shared}{H:Hp}{E:XK}{us:List Value}{vs:List V}
  (S:FnScope N ps scope) (hd:A.handled=none) (e0:Env0 P w K mg base A outer s H) (hl:vs.length=ps.length) (r:Vals vs us)
  (x:InCallC s s.heap.objs.size (bindL (envOfC qual scope s.heap.objs.size f cd).kindOf (ps.zip us) fun _=>none) (cellsFrom (s.heap.objs.size + 1) scope.names []) (bindC (envOfC qual scope s.heap.objs.size f cd).kindOf (ps.zip us) fun _=>none) s1):
  Inv (cxOf CX P w K mg base N qual scope f cd A outer s H E) [] (m_5 N vs) H s1:=by
 have hpl:ps.length≤N.length:=by have:=congrArg List.length S.pre;rw [List.length_take] at this;omega
 obtain⟨h1,tk,rfl,hk⟩:=x.done;have noA:∀b:Addr,b∉(cxOf CX P w K mg base N qual scope f cd A outer s H E).ex:=fun b z=>absurd (show b∈([]:List Addr) from z) (by simp);refine⟨⟨e0.mod,S.kind,rfl,rfl,Nat.le_refl _,fun y z c h1 h2=> ?_,fun y hy=> ?_,fun y c _ h=> ?_,fun _=>hd,Around.frames_deeper e0.frames, .inr ⟨rfl,rfl⟩,fun b z=>absurd z (noA b),e0.bs,e0.bsz,fun b _ _=>noA b,fun b z=>absurd z (noA b),e0.funs,e0.frf⟩,
  rfl,e0.bare,Un.kept hk,⟨_,x.toInCall.ns,fun i y v h1 h2 h3=> ?_⟩,fun y c h=>⟨_,x.cell y c h⟩,e0.hok.fresh (Nat.le_refl _),fun y c h=> ?_,fun p hp=>absurd (show p∈([]:List (Addr×Obj)) from hp) (by simp),e0.hok.kept hk, ?_⟩
 ·exact name_of_addr x.apart (PySem.mem_of_lookup h1) (PySem.mem_of_lookup h2)
 ·have hy:scope.names.lookup y=some .cell∨scope.names.lookup y=some .free:=hy;rcases hy with hy|hy
  ·exact bd_9 hy
  ·exact absurd rfl (S.nofree _ (PySem.mem_of_lookup hy))
 ·exact Nat.le_of_lt (x.above y c (PySem.mem_of_lookup h))
 ·have hi:i < vs.length:=by
   unfold m_5 at h2
   by_cases hi:i < vs.length
   ·exact hi
   ·rw [List.getElem?_append_right (by simpa using hi)] at h2;rw [List.getElem?_replicate] at h2
    split at h2 <;> cases h2
  have ha:vs[i]? =some v:=by
   unfold m_5 at h2;rw [List.getElem?_append_left (by simpa using hi),List.getElem?_map] at h2;cases e:vs[i]? with
   |none=>rw [e] at h2;cases h2
   |some a=>rw [e] at h2;cases h2;rfl
  obtain⟨u,hu,rv⟩:=r.get ha;have hp:ps[i]? =some y:=by
   rw [←S.pre,List.getElem?_take_of_lt (by omega)];exact h1
  have ndP:ps.Nodup:=by rw [←S.pre];exact S.nd.sublist (List.take_sublist _ _)
  refine⟨u,rv, ?_⟩;rcases S.par y (List.mem_of_getElem? hp) with k|k
  ·exact .inl ⟨k,at_9 ndP hp hu k⟩
  ·obtain⟨c,e⟩:=bd_9 (n:=s.heap.objs.size + 1) k;refine .inr ⟨.inl k,c,e, ?_⟩;have q:=x.cell y c e;rw [au_0 ndP hp hu (by show scope.names.lookup y≠_;rw [k];decide)] at q;exact q
 ·exact e0.hok.fresh (Nat.le_of_lt (x.above y c (PySem.mem_of_lookup h)))
 ·unfold m_5;show _=N.length;rw [List.length_append,List.length_map,List.length_replicate];omega
section
variable{X:Cx}{x:Str}{p pos:Pos}{e:Expr}{es:List Expr}{t:TA}{id T:String}{r:List V→Hp→VK→Prop}
def tCB(r:List V→Hp→VK→Prop)(t:TA):TE:=fun σ H Q=>t σ H fun vs H1=>r vs H1 Q
theorem x_5(hc:w_8 X (.builtin id) r)(hg:Gl X x)(hm:X.mg x=none)(hv:bootBuiltins x=some (.builtin id))(ha:PA X (e::es) t)(hn:x≠ "__name__" :=by decide)(hdb:(x ==("__debug__" :Str))=false:=by decide)
  (he:starEach (e::es) X.env=(false,eval e X.env)::starEach es X.env:=by rfl) (hpl:(backTo pos (starEach es X.env)).any (·.1)=false:=by rfl):PE X (.Call (.Name x p) (e::es) [] pos) (tCB r t):=by
 intro zd s σ H Q I h;refine wpAny_Call_Name_kw (v_4 I hg hm hv ?_ hn hdb);exact PyProof.Rows.callWith_builtin1 (thn (ha pos zd s σ H _ I h) fun us s1 ⟨vs,H1,I1,r1,q1⟩=>hc zd s1 σ H1 vs us Q I1 r1 q1) he hpl
theorem bv_3(hc:w_8 X (.type T) r)(hg:Gl X x)(hm:X.mg x=none)(hv:bootBuiltins x=some (.type T))(ha:PA X (e::es) t)(hn:x≠ "__name__" :=by decide)(hdb:(x ==("__debug__" :Str))=false:=by decide)
  (he:starEach (e::es) X.env=(false,eval e X.env)::starEach es X.env:=by rfl) (hpl:(backTo pos (starEach es X.env)).any (·.1)=false:=by rfl):PE X (.Call (.Name x p) (e::es) [] pos) (tCB r t):=by
 intro zd s σ H Q I h;refine wpAny_Call_Name_kw (v_4 I hg hm hv ?_ hn hdb);exact PyProof.Rows.callWith_type1 (thn (ha pos zd s σ H _ I h) fun us s1 ⟨vs,H1,I1,r1,q1⟩=>hc zd s1 σ H1 vs us Q I1 r1 q1) he hpl
end
end L2
namespace HT
open PySem PyProof.Rows
section
open PySem.SeqAt
open PySem.AutoSeq1 (wpAny_loadPart')
open PySem.MeetsSeq PySem.MeetsSeq2 PySem.MeetsSeq3
end
section
variable{prog:Program}{w:World}{A:Around}{E:Value→Shared→Prop}{s:Shared}
def sIx(n d:Nat):Option Int→Nat
 |none=>d
 |some v=>if v < 0 then(v + (n:Int)).toNat else min v.toNat n
end
end HT
namespace L2
open PySem PySem.Spec PyProof.Rows
abbrev TO:=St→Hp→(Option Int→Hp→Prop)→Prop
def PO(X:Cx)(e:Option Expr)(t:TO):Prop:=
 ∀(zd:List (Addr×Obj)) (s:Shared) (σ:St) (H:Hp) (Q:Option Int→Hp→Prop),Inv X zd σ H s→t σ H Q→
  wpAny (model X.prog X.w) X.A (evalPart e X.env) (fun u s'=>∃o H',Inv X zd σ H' s'∧IsPart u o∧Q o H') X.xe s
def cj_5:TO:=fun _ H Q=>Q none H
def da_0(t:TE):TO:=fun σ H Q=>t σ H fun x H1=>∃i,x= .int i∧Q (some i) H1
section
variable{X:Cx}{e:Expr}{te:TE}{lo hi:Option Expr}{tl th:TO}{pos p2:Pos}
theorem cj_6:PO X none cj_5:=by
 intro zd s σ H Q I h;rw [evalPart_none];exact wpAny_pure ⟨none,H,I, .none,h⟩
theorem cj_7(h:PE X e te):PO X (some e) (da_0 te):=by
 intro zd s σ H Q I hw;rw [evalPart_some];refine thn (h zd s σ H _ I hw) fun u s1 ⟨x,H1,I1,r1,q1⟩=> ?_;obtain⟨i,rfl,q⟩:=q1;obtain⟨t,rfl⟩:=r1;exact⟨some i,H1,I1, .int i t,q⟩
def SlR(X:Cx)(r:V→Option Int→Option Int→Hp→VK→Prop):Prop:=
 ∀(zd:List (Addr×Obj)) (s:Shared) (σ:St) (H:Hp) (x:V) (v vl vu:Value) (lo hi:Option Int) (sl:Addr) (Q:VK),Inv X zd σ H s→RelV x v→s.heap.IsSliceOf sl vl vu .none→IsPart vl lo→IsPart vu hi→r x lo hi H Q→
  ∃T id,typeLookup (.type T) "__getitem__" =pure (some (.builtin id))∧s.TypeIs v T∧wpAny (model X.prog X.w) X.A (getItem v (.ref sl)) (EP X zd σ Q) X.xe s
def tSl(r:V→Option Int→Option Int→Hp→VK→Prop)(te:TE)(tl th:TO):TE:=fun σ H Q=>te σ H fun x H1=>tl σ H1 fun l H2=>th σ H2 fun u H3=>r x l u H3 Q
theorem cb_3{r:V→Option Int→Option Int→Hp→VK→Prop}(hr:SlR X r)(he:PE X e te)(hl:PO X lo tl)(hu:PO X hi th):PE X (.Subscript e (.Slice lo hi none p2) pos) (tSl r te tl th):=by
 intro zd s σ H Q I h;refine Subscript_ (thn (he zd s σ H _ I h) fun v s1 ⟨x,H1,I1,r1,q1⟩=> ?_);refine wpAny_Slice (thn (hl zd s1 σ H1 _ I1 q1) fun vl s2 ⟨l,H2,I2,pl,q2⟩=>thn (hu zd s2 σ H2 _ I2 q2) fun vu s3 ⟨u,H3,I3,pu,q3⟩=> ?_);rw [evalPart_none];refine wpAny_pure ?_;have I4:Inv X zd σ H3 {s3 with heap:=s3.heap.push {cls:= .type "slice",data:= .fields #[vl,vu, .none]}}:=I3.kept (t':=s3.toks) fun b ob q=>Heap.get?_push_of_some _ q;obtain⟨T,id,hT,ht,hg⟩:=hr zd {s3 with heap:=s3.heap.push {cls:= .type "slice",data:= .fields #[vl,vu, .none]}} σ H3 x v vl vu l u s3.heap.objs.size Q I4 r1 (Heap.IsSliceOf.new ..) pl pu q3;show wpAny (model X.prog X.w) X.A (subscriptTail e (.Slice lo hi none p2) v (.ref s3.heap.objs.size)) (EP X zd σ Q) X.xe {s3 with heap:=s3.heap.push {cls:= .type "slice",data:= .fields #[vl,vu, .none]}};exact tail_any (ops:= [.ref s3.heap.objs.size,v]) ht hT hg (by with_unfolding_all rfl)
def cutV(xs:List V)(lo hi:Option Int):List V:=(xs.drop (HT.sIx xs.length 0 lo)).take (HT.sIx xs.length xs.length hi - HT.sIx xs.length 0 lo)
theorem be_0(xs:List V)(lo hi:Option Int):(cutV xs lo hi).length≤xs.length:=by
 unfold cutV;rw [List.length_take,List.length_drop];omega
end
def ixN(n:Nat)(i:Int):Option Nat:=if 0≤i then(if i < n then some i.toNat else none) else if -(n:Int)≤i then some (i + n).toNat else none
def atI{α:Type}(xs:List α)(i:Int):Option α:=(ixN xs.length i).bind fun j=>xs[j]?
theorem cj_8{n:Nat}{i:Int}{j:Nat}(h:ixN n i=some j):seqIndex? i n=some j∧j < n∧ -(n:Int)≤i∧i < n:=by
 unfold ixN at h
 by_cases h0:0≤i
 ·rw [if_pos h0] at h
  by_cases h1:i < n
  ·rw [if_pos h1] at h;have e:i.toNat=j:=Option.some.inj h;exact⟨by rw [seqIndex_of h0 h1,e],by omega,by omega,h1⟩
  ·rw [if_neg h1] at h;cases h
 ·rw [if_neg h0] at h
  by_cases h1: -(n:Int)≤i
  ·rw [if_pos h1] at h;have e:(i + n).toNat=j:=Option.some.inj h;exact⟨by rw [seqIndex_neg (by omega) h1,e],by omega,h1,by omega⟩
  ·rw [if_neg h1] at h;cases h
theorem ax_0{α:Type}{xs:List α}{i:Int}{v:α}(h:atI xs i=some v):∃j,seqIndex? i xs.length=some j∧xs[j]? =some v∧j < xs.length∧ -(xs.length:Int)≤i∧i < xs.length:=by
 unfold atI at h;cases e:ixN xs.length i with
 |none=>rw [e] at h;cases h
 |some j=>
  rw [e] at h;obtain⟨h1,h2,h3,h4⟩:=cj_8 e;exact⟨j,h1,h,h2,h3,h4⟩
def bp_9(b:Expr):Prop:=∀o i,subscripted b false o i=operate [o,i] (getItem o i)
def IxR(X:Cx)(r:R2):Prop:=
 ∀(value slice:Expr) (zd:List (Addr×Obj)) (s:Shared) (σ:St) (H:Hp) (x y:V) (v u:Value) (Q:VK),Inv X zd σ H s→RelV x v→RelV y u→r x y H Q→
  subscripted slice false v u=operate [v,u] (getItem v u)→wpAny (model X.prog X.w) X.A (subscriptTail value slice v u) (EP X zd σ Q) X.xe s
def MtR(X:Cx)(id:String)(r:V→List V→Hp→VK→Prop):Prop:=
 ∀(zd:List (Addr×Obj)) (s:Shared) (σ:St) (H:Hp) (x:V) (xs:List V) (v:Value) (us:List Value) (Q:VK),Inv X zd σ H s→RelV x v→Vals xs us→r x xs H Q→
  wpAny (model X.prog X.w) X.A (call (.builtin id) (v::us)) (EP X zd σ Q) X.xe s
section
variable{X:Cx}{a b:Expr}{ta tb:TE}{pos:Pos}
theorem da_1{r:R2}(hr:IxR X r)(ha:PE X a ta)(hb:PE X b tb)(hs:bp_9 b):PE X (.Subscript a b pos) (tOp r ta tb):=by
 intro zd s σ H Q I h;exact Subscript_ (binT ha hb I h fun v u s2 x y H2 I2 rx ry q=>hr a b zd s2 σ H2 x y v u Q I2 rx ry q (hs _ _))
def rIxL(K:Frag):R2:=fun x y H Q=>∃p xs i v,x= .ref p∧y= .int i∧SqL K H p xs∧atI xs i=some v∧Q v H
def rIxT(K:Frag):R2:=fun x y H Q=>∃p xs i v,x= .ref p∧y= .int i∧SqT K H p xs∧atI xs i=some v∧Q v H
def rIxS:R2:=fun x y H Q=>∃z i c,x= .str z∧y= .int i∧z.length≤sizeLine∧atI z.cps.toList i=some c∧Q (.str ⟨#[c]⟩) H
theorem ax_1:IxR X (rIxL X.K):=by
 intro value slice zd s σ H x y v u Q I rx ry h hs;obtain⟨p,xs,i,z,rfl,rfl,hq,he,q⟩:=h;cases rx;obtain⟨t,rfl⟩:=ry;obtain⟨its,r,pl,hz⟩:=I.list hq;obtain⟨j,h1,h2,h3,h4,h5⟩:=ax_0 he;obtain⟨w,ew,rw'⟩:=r.get h2;have hl:=r.length;have hn:=ah_0;have fin:EP X zd σ Q w s:=⟨z,H,I,rw',q⟩
 by_cases h0:0≤i
 ·have hj:i.toNat=j:=by
   rw [seqIndex_of h0 h5] at h1;exact Option.some.inj h1
  exact item_listR pl.isList h0 (by omega) (by rw [hj];simpa using ew) fin hs
 ·have hj:(i + (its.toArray.size:Int)).toNat=j:=by
   rw [seqIndex_neg (by omega) h4] at h1;rw [List.size_toArray,←hl];exact Option.some.inj h1
  exact subscriptTail_builtinR (x:=w) pl.isList.typeIs slot_list_getitem.lookup
   (wpAny_getItem_list_neg (Q:=fun r s'=>r=w∧EP X zd σ Q r s') pl.isList (by omega) (by rw [List.size_toArray] <;> omega) (by omega) (by rw [hj];simpa using ew) ⟨rfl,fin⟩) hs
theorem ct_4:IxR X (rIxT X.K):=by
 intro value slice zd s σ H x y v u Q I rx ry h hs;obtain⟨p,xs,i,z,rfl,rfl,hq,he,q⟩:=h;cases rx;obtain⟨t,rfl⟩:=ry;obtain⟨its,r,pl,hz⟩:=I.tuple hq;obtain⟨j,h1,h2,h3,h4,h5⟩:=ax_0 he;obtain⟨w,ew,rw'⟩:=r.get h2;have hl:=r.length;have hn:=ah_0;have fin:EP X zd σ Q w s:=⟨z,H,I,rw',q⟩;exact subscriptTail_builtinR (x:=w) pl.typeIs slot_tuple_getitem.lookup
  (getItem_tuple (j:=j) (Q:=fun r s'=>r=w∧EP X zd σ Q r s') pl (by omega) (by omega) (by rw [List.size_toArray,←hl];exact h1) (by simpa using ew) ⟨rfl,fin⟩) hs
theorem ct_5:IxR X rIxS:=by
 intro value slice zd s σ H x y v u Q I rx ry h hs;obtain⟨z,i,c,rfl,rfl,hz,he,q⟩:=h;obtain⟨t,rfl⟩:=rx;obtain⟨t',rfl⟩:=ry;obtain⟨j,h1,h2,h3,h4,h5⟩:=ax_0 he;have hl:z.cps.toList.length=z.length:=by simp [Str.length]
 rw [hl] at h1 h4 h5;have hn:=ah_0;exact tail_any (typeIs_str s z t) slot_str_getitem.lookup (getItem_str (c:=c) (by
  have e1:decide (i < -(2 ^ 63:Int))=false:=decide_eq_false (by omega);have e2:decide (i≥2 ^ 63)=false:=decide_eq_false (by omega);rw [e1,e2,Bool.or_false]) (by rw [h1];simpa using h2) ⟨.str ⟨#[c]⟩,H,I.tok _,⟨_,rfl⟩,q⟩) hs
theorem Inv.lst{zd:List (Addr×Obj)}{σ:St}{H:Hp}{s:Shared}{p:Addr}{xs:List V}(I:Inv X zd σ H s)(h:H p=some (.lst xs)):
  ∃(its:List Value) (n:Nat),Vals xs its∧s.heap.get? p=some {cls:= .type "list",data:= .seq its.toArray n}∧xs.length≤sizeLine:=by
 obtain⟨z,its,n,r,e⟩:=I.hok p _ h;exact⟨its,n,r,e,z⟩
theorem ax_2(lo hi:Option Int)(n:Nat):(sliceBounds lo hi none n).1=((HT.sIx n 0 lo:Nat):Int)∧(sliceBounds lo hi none n).2.1=((HT.sIx n n hi:Nat):Int)∧(sliceBounds lo hi none n).2.2=1:=by
 refine⟨?_, ?_,rfl⟩
 ·cases lo with
  |none=>simp [sliceBounds,HT.sIx]
  |some i=>
   simp only [sliceBounds,HT.sIx,Option.getD_none,show(1:Int) > 0 by decide,if_true]
   by_cases h:i < 0
   ·simp only [h,if_true] <;> omega
   ·simp only [h,if_false] <;> omega
 ·cases hi with
  |none=>simp [sliceBounds,HT.sIx]
  |some i=>
   simp only [sliceBounds,HT.sIx,Option.getD_none,show(1:Int) > 0 by decide,if_true]
   by_cases h:i < 0
   ·simp only [h,if_true] <;> omega
   ·simp only [h,if_false] <;> omega
theorem ar_1(its:List Value)(lo hi:Option Int):slicePick its.toArray lo hi none=((its.drop (HT.sIx its.length 0 lo)).take (HT.sIx its.length its.length hi - HT.sIx its.length 0 lo)).toArray:=by
 obtain⟨h1,h2,h3⟩:=ax_2 lo hi its.toArray.size;unfold slicePick;rw [h1,h2,h3];simp only [sliceRange_one,pick_run,List.size_toArray] <;> rfl
def rSlL(K:Frag):V→Option Int→Option Int→Hp→VK→Prop:=fun x lo hi H Q=>∃a xs,x= .ref a∧SqL K H a xs∧∀p,H p=none→Q (.ref p) (upd H p (.lst (cutV xs lo hi)))
theorem cj_9:SlR X (rSlL X.K):=by
 intro zd s σ H x v vl vu lo hi sl Q I rx hs pl pu h;obtain⟨a,xs,rfl,hx,q⟩:=h;cases rx;obtain⟨its,r,ht,hz⟩:=I.list hx;have zk:=r.length;refine⟨"list",_,slot_list_getitem.lookup,ht.isList.typeIs, ?_⟩;refine wpAny_getItem_list_slice ht.isList hs pl pu .none (by simp) ?_ (by rw [List.size_toArray] <;> omega);rw [ar_1,←zk];refine⟨.ref s.heap.objs.size,_,I.laid (t':=s.toks) (o:= .lst (cutV xs lo hi)) (fun b ob q=>Heap.get?_push_of_some _ q) (Nat.le_refl _) ?_,rfl,q _ (I.hok.fresh (Nat.le_refl _))⟩;exact⟨Nat.le_trans (be_0 xs lo hi) hz,_,0,(r.drop (HT.sIx xs.length 0 lo)).take (HT.sIx xs.length xs.length hi - HT.sIx xs.length 0 lo),Heap.get?_push_size _ rfl⟩
def ab_4:V→Bool
 | .non=>true
 | .bl _=>true
 | .int _=>true
 | .str _=>true
 |_=>false
def eqV:V→V→Bool
 | .non, .non=>true
 | .bl a, .bl b=>a ==b
 | .bl a, .int b=>(if a then 1 else 0) ==b
 | .int a, .bl b=>a ==(if b then 1 else 0)
 | .int a, .int b=>a ==b
 | .str a, .str b=>a ==b
 |_,_=>false
theorem ct_6{A:Around}{s:Shared}{y x:V}{u v:Value}(ry:RelV y u)(rx:RelV x v)(fy:ab_4 y=true)(fx:ab_4 x=true):SeqAt.EqAt A s u v (eqV y x):=by
 cases y with
 |non=>
  cases ry;cases x with
  |non=>cases rx;exact SeqAt.EqAt.same _
  |bl b=>cases rx;exact SeqAt.EqAt.none_bool b
  |int b=>obtain⟨t,rfl⟩:=rx;exact SeqAt.EqAt.none_int b t
  |str b=>obtain⟨t,rfl⟩:=rx;exact SeqAt.EqAt.none_str b t
  |_=>exact absurd (show false=true from fx) Bool.false_ne_true
 |bl a=>
  cases ry;cases x with
  |non=>cases rx;exact SeqAt.EqAt.bool_none a
  |bl b=>cases rx;exact SeqAt.EqAt.bool_bool a b
  |int b=>obtain⟨t,rfl⟩:=rx;exact SeqAt.EqAt.bool_int a b t
  |str b=>obtain⟨t,rfl⟩:=rx;exact SeqAt.EqAt.bool_str a b t
  |_=>exact absurd (show false=true from fx) Bool.false_ne_true
 |int a=>
  obtain⟨t',rfl⟩:=ry;cases x with
  |non=>cases rx;exact SeqAt.EqAt.int_none a t'
  |bl b=>cases rx;exact SeqAt.EqAt.int_bool a t' b
  |int b=>obtain⟨t,rfl⟩:=rx;exact SeqAt.EqAt.int_int a t' b t
  |str b=>obtain⟨t,rfl⟩:=rx;exact SeqAt.EqAt.int_str a t' b t
  |_=>exact absurd (show false=true from fx) Bool.false_ne_true
 |str a=>
  obtain⟨t',rfl⟩:=ry;cases x with
  |non=>cases rx;exact SeqAt.EqAt.str_none a t'
  |bl b=>cases rx;exact SeqAt.EqAt.str_bool a t' b
  |int b=>obtain⟨t,rfl⟩:=rx;exact SeqAt.EqAt.str_int a t' b t
  |str b=>obtain⟨t,rfl⟩:=rx;exact SeqAt.EqAt.str_str a t' b t
  |_=>exact absurd (show false=true from fx) Bool.false_ne_true
 |_=>exact absurd (show false=true from fy) Bool.false_ne_true
def eqU(x:V)(u:Value):Bool:=match u with
 | .none=>eqV .non x
 | .bool b=>eqV (.bl b) x
 | .int i _=>eqV (.int i) x
 | .str z _=>eqV (.str z) x
 |_=>false
theorem cb_4{x y:V}{u:Value}(r:RelV y u)(f:ab_4 y=true):eqU x u=eqV y x:=by
 cases y with
 |non=>cases r;rfl
 |bl b=>cases r;rfl
 |int i=>obtain⟨t,rfl⟩:=r;rfl
 |str z=>obtain⟨t,rfl⟩:=r;rfl
 |_=>exact absurd (show false=true from f) Bool.false_ne_true
theorem ad_9{x:V}:∀{xs:List V} {us:List Value},Vals xs us→xs.all ab_4=true→us.any (eqU x)=xs.any fun y=>eqV y x
 |_,_, .nil,_=>rfl
 |y::xs,u::us, .cons r t,f=>by
  rw [List.all_cons,Bool.and_eq_true] at f;rw [List.any_cons,List.any_cons,cb_4 r f.1,ad_9 t f.2]
theorem x_6{A:Around}{s:Shared}{x:V}{v:Value}(rx:RelV x v)(fx:ab_4 x=true):∀{xs:List V} {us:List Value},Vals xs us→xs.all ab_4=true→∀u∈us,SeqAt.EqAt A s u v (eqU x u)
 |_,_, .nil,_=>fun u hu=>by cases hu
 |y::xs,u::us, .cons r t,f=>fun u' hu=>by
  rw [List.all_cons,Bool.and_eq_true] at f;rcases List.mem_cons.mp hu with rfl|hu
  ·rw [cb_4 r f.1];exact ct_6 r rx f.1 fx
  ·exact x_6 rx fx t f.2 u' hu
def inV(x:V)(xs:List V):Bool:=xs.any fun y=>eqV y x
def rIn(K:Frag)(neg:Bool):R2:=fun x y H Q=>∃p xs,y= .ref p∧(SqL K H p xs∨SqT K H p xs)∧ab_4 x=true∧xs.all ab_4=true∧Q (.bl (if neg then !inV x xs else inV x xs)) H
theorem bv_5:OpR X (compareOp .In) (rIn X.K false):=by
 intro zd s σ H x y v u Q I rx ry h;obtain⟨p,xs,rfl,hq,fx,fs,q⟩:=h;cases ry;rcases hq with hq|hq
 ·obtain⟨its,r,pl,hz⟩:=I.list hq;refine SeqAt.in_listAt (eqU x) pl.isList (fun w hw=>x_6 rx fx r fs w (by simpa using hw)) ⟨.bl _,H,I,rfl, ?_⟩;rw [show its.toArray.any (eqU x)=its.any (eqU x) by simp,ad_9 r fs];exact q
 ·obtain⟨its,r,pl,hz⟩:=I.tuple hq;refine SeqAt.in_tupleAt (eqU x) pl (fun w hw=>x_6 rx fx r fs w (by simpa using hw)) ⟨.bl _,H,I,rfl, ?_⟩;rw [show its.toArray.any (eqU x)=its.any (eqU x) by simp,ad_9 r fs];exact q
theorem ax_3:OpR X (compareOp .NotIn) (rIn X.K true):=by
 intro zd s σ H x y v u Q I rx ry h;obtain⟨p,xs,rfl,hq,fx,fs,q⟩:=h;cases ry;rcases hq with hq|hq
 ·obtain⟨its,r,pl,hz⟩:=I.list hq;refine SeqAt.notIn_listAt (eqU x) pl.isList (fun w hw=>x_6 rx fx r fs w (by simpa using hw)) ⟨.bl _,H,I,rfl, ?_⟩;rw [show its.toArray.any (eqU x)=its.any (eqU x) by simp,ad_9 r fs];exact q
 ·obtain⟨its,r,pl,hz⟩:=I.tuple hq;refine SeqAt.notIn_tupleAt (eqU x) pl (fun w hw=>x_6 rx fx r fs w (by simpa using hw)) ⟨.bl _,H,I,rfl, ?_⟩;rw [show its.toArray.any (eqU x)=its.any (eqU x) by simp,ad_9 r fs];exact q
theorem ax_4:OpR X (compareOp .NotIn) (fun x y H Q=>∃i j,x= .str i∧y= .str j∧Q (.bl (!(!(Builtin.Str.occurrences j i 0 j.length 1).isEmpty))) H):=by
 intro zd s σ H x y v u Q I rx ry h;obtain⟨i,j,rfl,rfl,q⟩:=h;obtain⟨t,rfl⟩:=rx;obtain⟨t',rfl⟩:=ry;exact notIn_str ⟨.bl _,H,I,rfl,q⟩
theorem ae_0:w_8 X (.builtin "len") (fun xs H Q=>∃p ys,xs= [.ref p]∧(SqL X.K H p ys∨SqT X.K H p ys)∧Q (.int ys.length) H):=by
 intro zd s σ H xs us Q I r h;obtain⟨p,ys,rfl,hq,q⟩:=h;obtain⟨u,rfl,rx⟩:=bd_8 r;cases rx;have hn:=ah_0;rcases hq with hq|hq
 ·obtain⟨its,r',pl,hz⟩:=I.list hq;have zk:=r'.length;exact Calls.call_len_list pl.isList (by simp only [List.size_toArray] <;> omega) ⟨.int ys.length,H,I.tok _,⟨s.toks + 1,by rw [List.size_toArray,zk]⟩,q⟩
 ·obtain⟨its,r',pl,hz⟩:=I.tuple hq;have zk:=r'.length;exact len_tuple pl (by simp only [List.size_toArray] <;> omega) ⟨.int ys.length,H,I.tok _,⟨s.toks + 1,by rw [List.size_toArray,zk]⟩,q⟩
theorem ax_5:w_8 X (.builtin "len") (fun xs H Q=>∃z,xs= [.str z]∧z.length≤sizeLine∧Q (.int z.length) H):=by
 intro zd s σ H xs us Q I r h;obtain⟨z,rfl,hz,q⟩:=h;obtain⟨u,rfl,t,rfl⟩:=bd_8 r;have hn:=ah_0;exact len_str (by omega) ⟨.int z.length,H,I.tok _,⟨_,rfl⟩,q⟩
theorem ae_1:w_8 X (.type "list") (fun xs H Q=>∃p ys,xs= [.ref p]∧(SqL X.K H p ys∨SqT X.K H p ys)∧∀l,H l=none→Q (.ref l) (upd H l (.lst ys))):=by
 intro zd s σ H xs us Q I r h;obtain⟨p,ys,rfl,hq,q⟩:=h;obtain⟨u,rfl,rx⟩:=bd_8 r;cases rx;have fin:∀(its:List Value),Vals ys its→ys.length≤sizeLine→∀(h':Heap) (c':Nat),(∀b o',s.heap.get? b=some o'→h'.get? b=some o')→
   h'.get? s.heap.objs.size=some {cls:= .type "list",dict:=none,data:= .seq its.toArray c',slots:= #[]}→EP X zd σ Q (.ref s.heap.objs.size) {s with heap:=h'}:=fun its r' hz h' c' kp e=>
  ⟨.ref s.heap.objs.size,_,I.laid (t':=s.toks) kp (Nat.le_refl _) (show ObjOk X.prog X.w _ h' _ (.lst ys) from⟨hz,its,c',r',e⟩),rfl,q _ (I.hok.fresh (Nat.le_refl _))⟩
 rcases hq with hq|hq
 ·obtain⟨its,r',pl,hz⟩:=I.list hq;have zk:=r'.length;obtain⟨o,ho,hc,n,hd⟩:=pl.isList;exact call_list_seq p (.inl rfl) ho hc hd (fun h' c' kp e=>fin its r' hz h' c' kp e) (by simp only [List.size_toArray] <;> omega)
 ·obtain⟨its,r',pl,hz⟩:=I.tuple hq;have zk:=r'.length;obtain⟨o,ho,hc,n,hd⟩:=pl;exact call_list_seq p (.inr rfl) ho hc hd (fun h' c' kp e=>fin its r' hz h' c' kp e) (by simp only [List.size_toArray] <;> omega)
def tyV(K:Frag)(T:String)(x:V)(H:Hp):Prop:=match x with
 | .str _=>T= "str"
 | .int _=>T= "int"
 | .ref p=>(T= "list" ∧∃xs,SqL K H p xs)∨(T= "tuple" ∧∃o,K.lookup p=some o∧o.cls= .type "tuple" ∧o.dict=none)∨
   (T= "dict" ∧((∃kvs,H p=some (.dK kvs))∨∃kvs,H p=some (.dT kvs)))∨(T= "set" ∧∃S n,H p=some (.set S n))
 |_=>False
theorem cb_5{zd:List (Addr×Obj)}{σ:St}{H:Hp}{s:Shared}{T:String}{x:V}{v:Value}(I:Inv X zd σ H s)(r:RelV x v)(ty:tyV X.K T x H):
  s.TypeIs v T∧∀a,v= .ref a→∃ob,s.heap.get? a=some ob∧ob.dict=none:=by
 cases x with
 |str z=>
  obtain⟨t,rfl⟩:=r;cases(show T= "str" from ty);exact⟨typeIs_str s z t,fun _ e=>nomatch e⟩
 |int i=>
  obtain⟨t,rfl⟩:=r;cases(show T= "int" from ty);exact⟨typeIs_int s i t,fun _ e=>nomatch e⟩
 |ref p=>
  cases r;rcases ty with⟨rfl,xs,hq⟩|⟨rfl,o,hk,hc,hd⟩|⟨rfl,hk⟩|⟨rfl,S,n,hk⟩
  ·obtain⟨its,_,pl,_⟩:=I.list hq;refine⟨pl.isList.typeIs,fun a e=> ?_⟩;cases e;obtain⟨o,n,e,c,hd,_⟩:=pl;exact⟨o,e,hd⟩
  ·refine⟨⟨o,I.kIn p o hk,hc⟩,fun a e=> ?_⟩;cases e;exact⟨o,I.kIn _ o hk,hd⟩
  ·have z:∃o,s.heap.get? p=some o∧o.ExactDict:=by
    rcases hk with⟨kvs,hk⟩|⟨kvs,hk⟩
    ·obtain⟨_,_,_,_,o,_,_,e,ex,_⟩:=I.hok p _ hk;exact⟨o,e,ex⟩
    ·obtain⟨_,_,_,_,o,_,_,e,ex,_⟩:=I.hok p _ hk;exact⟨o,e,ex⟩
   obtain⟨o,e,ex⟩:=z;refine⟨⟨o,e,ex.1⟩,fun a e2=> ?_⟩;cases e2;exact⟨o,e,ex.2.1⟩
  ·obtain⟨o,_,_,_,e,ex,_⟩:=I.hok p _ hk;refine⟨⟨o,e,ex.1⟩,fun a e2=> ?_⟩;cases e2;exact⟨o,e,ex.2.1⟩
 |_=>exact False.elim ty
def tBM0(K:Frag)(T:String)(r:V→List V→Hp→VK→Prop)(to:TE):TE:=fun σ H Q=>to σ H fun x H1=>tyV K T x H1∧r x [] H1 Q
def tBM(K:Frag)(T:String)(r:V→List V→Hp→VK→Prop)(to:TE)(t:TA):TE:=fun σ H Q=>to σ H fun x H1=>tyV K T x H1∧t σ H1 fun xs H2=>r x xs H2 Q
variable{o e:Expr}{es:List Expr}{to:TE}{t:TA}{name:Str}{zh zf:Pos}{T id:String}{r:V→List V→Hp→VK→Prop}
theorem ct_7(pa:PlainAttrs T)(slot:Slot T name id)(hty:typeOf (.builtin id)=pure (.type "method_descriptor"))(hm:MtR X id r)(ho:PE X o to)
  (aa:attributeBase o name X.env (eval o X.env)=eval o X.env:=by rfl) (ae:(zh.endLine ==zf.line)=true:=by rfl):PE X (.Call (.Attribute o name zh) [] [] zf) (tBM0 X.K T r to):=by
 intro zd s σ H Q I h;refine wpAny_Call_method0_late aa ae (thn (ho zd s σ H _ I h) fun v s1 ⟨x,H1,I1,r1,ty,q1⟩=> ?_);obtain⟨h1,h2⟩:=cb_5 I1 r1 ty;exact⟨T,id,pa,slot,hty,h1,h2,Calls.callWith_builtin rfl (PySem.evalArgs_none (hm zd s1 σ H1 x [] v [] Q I1 r1 .nil q1))⟩
theorem cp_5(pa:PlainAttrs T)(slot:Slot T name id)(hty:typeOf (.builtin id)=pure (.type "method_descriptor"))(hm:MtR X id r)(ho:PE X o to)(ha:PA X (e::es) t)
  (aa:attributeBase o name X.env (eval o X.env)=eval o X.env:=by rfl)
  (ba:((backTo zf (starEach (e::es) X.env)).all (fun x=> !x.1) && (backToKw zf (keywordEach [] X.env)).all (fun x=>x.1.isSome)
   && decide ((e::es).length + ([]:List Keyword).length + (if([]:List Keyword).isEmpty then 0 else 1) < 30))=true:=by rfl)
  (ae:(zh.endLine ==zf.line)=true:=by rfl) (hs:starEach (e::es) X.env=(false,eval e X.env)::starEach es X.env:=by rfl) (ah:(backTo zf (starEach es X.env)).any (·.1)=false:=by rfl):
  PE X (.Call (.Attribute o name zh) (e::es) [] zf) (tBM X.K T r to t):=by
 intro zd s σ H Q I h;refine wpAny_Call_method_late aa ba ae rfl (thn (ho zd s σ H _ I h) fun v s1 ⟨x,H1,I1,r1,ty,q1⟩=> ?_);obtain⟨h1,h2⟩:=cb_5 I1 r1 ty;refine⟨T,id,pa,slot,hty,h1,h2, ?_⟩;have hA:=ha zf zd s1 σ H1 _ I1 q1;rw [hs] at hA⊢;refine Calls.callWith_builtin (by show(false || (backTo zf (starEach es X.env)).any (·.1))=false;rw [ah] <;> rfl) (Calls.evalArgs_plain ?_);exact thn hA fun us s2 ⟨vs,H2,I2,r2,q2⟩=>hm zd s2 σ H2 x vs v us Q I2 r1 r2 q2
end
def MtM(X:Cx)(id:String)(r:V→List V→Hp→VK→Prop):Prop:=
 ∀(zd:List (Addr×Obj)) (s:Shared) (σ:St) (H:Hp) (x:V) (xs:List V) (v:Value) (us:List Value) (Q:VK),Inv X zd σ H s→RelV x v→Vals xs us→r x xs H Q→
  wpAny (model X.prog X.w) X.A (call (.builtin id) (v::us)) (EP X zd σ Q) X.xe s
theorem Vals.one:∀{x:V} {us:List Value},Vals [x] us→∃u,us= [u]∧RelV x u
 |_,_, .cons r .nil=>⟨_,rfl,r⟩
theorem Vals.two:∀{x y:V} {us:List Value},Vals [x,y] us→∃u v,us= [u,v]∧RelV x u∧RelV y v
 |_,_,_, .cons r (.cons q .nil)=>⟨_,_,rfl,r,q⟩
theorem Vals.zero:∀{us:List Value},Vals [] us→us= []
 |_, .nil=>rfl
theorem Vals.dropLast{xs:List V}{us:List Value}(h:Vals xs us):Vals xs.dropLast us.dropLast:=by
 induction h with
 |nil=>exact .nil
 |cons r t ih=>
  cases t with
  |nil=>exact .nil
  |cons q t'=>exact .cons r ih
theorem Vals.eraseIdx:∀{xs:List V} {us:List Value} (i:Nat),Vals xs us→Vals (xs.eraseIdx i) (us.eraseIdx i)
 |_,_,_, .nil=> .nil
 |_,_,0, .cons _ t=>t
 |_,_,i + 1, .cons r t=> .cons r (Vals.eraseIdx i t)
theorem Vals.rep{xs:List V}{us:List Value}(h:Vals xs us):∀k:Nat,Vals (List.replicate k xs).flatten (List.replicate k us).flatten
 |0=> .nil
 |k + 1=>by
  rw [List.replicate_succ,List.replicate_succ,List.flatten_cons,List.flatten_cons];exact Vals.append h (Vals.rep h k)
theorem bm_0{α:Type}(l:List α):l.eraseIdx (l.length - 1)=l.dropLast:=by
 induction l with
 |nil=>rfl
 |cons a r ih=>
  cases r with
  |nil=>rfl
  |cons b r=>
   have e:(a::b::r).length - 1=((b::r).length - 1) + 1:=by
    have h1:(a::b::r).length=r.length + 2:=rfl;have h2:(b::r).length=r.length + 1:=rfl;omega
   rw [e,List.eraseIdx_cons_succ,ih]
   all_goals rfl
theorem au_1(its:List Value):∀(k:Nat) (acc:List Value),
  List.foldl (fun x1 x2=>x1 ++ x2) acc.toArray (List.replicate k its.toArray)=(acc ++ (List.replicate k its).flatten).toArray
 |0,acc=>by simp
 |k + 1,acc=>by
  have e:acc.toArray ++ its.toArray=(acc ++ its).toArray:=by simp
  have e2:(acc ++ its) ++ (List.replicate k its).flatten=acc ++ (List.replicate (k + 1) its).flatten:=by
   rw [List.replicate_succ,List.flatten_cons,List.append_assoc]
  rw [←e2,←au_1 its k (acc ++ its),←e,List.replicate_succ,List.foldl_cons]
section
variable{X:Cx}{zd:List (Addr×Obj)}{σ:St}{H:Hp}{s:Shared}{l b:Addr}{xs ys zs:List V}
theorem Inv.lset{its its':List Value}{n:Nat}{f:Array Value→Array Value}{t':Nat}(I:Inv X zd σ H s)(hH:H l=some (.lst xs))
  (e:s.heap.get? l=some {cls:= .type "list",data:= .seq its.toArray n}) (hf:f its.toArray=its'.toArray) (hv:Vals ys its') (hz:ys.length≤sizeLine):
  Inv X zd σ (upd H l (.lst ys)) {s with heap:=s.heap.update l (Obj.mapSeq f),toks:=t'}:=by
 have q:=PySem.IsL.update e f;rw [hf] at q;refine I.write (x:=l) (e:=l) (by rw [hH];exact trivial) (.inl rfl) (fun b' u hb hu=>(Heap.get?_update_other s.heap (Obj.mapSeq f) (Ne.symm hb)).trans hu) ⟨_,q⟩ ?_;exact⟨hz,its',_,hv,q⟩
theorem Inv.lnew{its:List Value}{t':Nat}(I:Inv X zd σ H s)(hv:Vals ys its)(hz:ys.length≤sizeLine):
  Inv X zd σ (upd H s.heap.objs.size (.lst ys)) {s with heap:=s.heap.push {cls:= .type "list",data:= .seq its.toArray},toks:=t'}:=
 I.laid (fun _ _ q=>Heap.get?_push_of_some _ q) (Nat.le_refl _) ⟨hz,its,0,hv,Heap.get?_push_size _ rfl⟩
theorem Inv.fresh(I:Inv X zd σ H s):H s.heap.objs.size=none:=I.hok.fresh (Nat.le_refl _)
theorem Inv.lstM(I:Inv X zd σ H s)(hH:H l=some (.lst xs)):xs.length≤sizeLine∧∃(its:List Value) (n:Nat),Vals xs its∧xs.length=its.length∧s.heap.get? l=some {cls:= .type "list",data:= .seq its.toArray n}:=by
 obtain⟨z,its,n,r,e⟩:=I.hok l _ hH;exact⟨z,its,n,r,r.length,e⟩
theorem cb_6{n:Nat}(h:n≤sizeLine):Builtin.List.listTooLong n=false:=by
 unfold Builtin.List.listTooLong;exact decide_eq_false (by omega)
end
section
variable{X:Cx}
def bq_0:V→List V→Hp→VK→Prop:=fun x vs H Q=>∃l xs y,x= .ref l∧vs= [y]∧H l=some (.lst xs)∧xs.length < sizeLine∧Q .non (upd H l (.lst (xs ++ [y])))
theorem au_2:MtM X "list.append" bq_0:=by
 intro zd s σ H x vs v us Q I rx rv h;obtain⟨l,xs,y,rfl,rfl,hH,hz,q⟩:=h;cases rx;obtain⟨u,rfl,ru⟩:=rv.one;obtain⟨z,its,n,r,hl,e⟩:=I.lstM hH;refine call_meets F.slot_list_append ⟨_,e,rfl⟩ F.entry_list_append (F.args_list_append_2 _ _) (PySem.list_append l its.toArray n u (by rw [List.size_toArray];omega)) ⟨e, ?_⟩;refine⟨.non,_,I.lset (its':=its ++ [u]) hH e (by simp) (r.append (.cons ru .nil)) ?_,rfl,q⟩;rw [List.length_append,List.length_singleton];omega
def rPop:V→List V→Hp→VK→Prop:=fun x vs H Q=>∃l xs y,x= .ref l∧vs= []∧H l=some (.lst xs)∧xs[xs.length - 1]? =some y∧Q y (upd H l (.lst xs.dropLast))
theorem ct_8:MtM X "list.pop" rPop:=by
 intro zd s σ H x vs v us Q I rx rv h;obtain⟨l,xs,y,rfl,rfl,hH,hy,q⟩:=h;cases rx;have hus:=rv.zero;subst hus;obtain⟨z,its,n,r,hl,e⟩:=I.lstM hH;obtain⟨u,hu,ru⟩:=r.get hy;have hy':its.toArray[its.toArray.size - 1]? =some u:=by
  show its.toArray[its.length - 1]? =some u;rw [←Array.getElem?_toList,←hl];exact hu
 refine call_meets F.slot_list_pop ⟨_,e,rfl⟩ F.entry_list_pop (F.args_list_pop_1 _) (MeetsSeq.list_pop_last l its.toArray n u hy' (by rw [List.size_toArray];omega)) ⟨e, ?_⟩;refine⟨y,_,I.lset (its':=its.dropLast) hH e ?_ r.dropLast ?_,ru,q⟩
 ·show its.toArray.eraseIdxIfInBounds (its.toArray.size - 1)=its.dropLast.toArray;rw [List.size_toArray,List.eraseIdxIfInBounds_toArray,bm_0]
 ·rw [List.length_dropLast];omega
def rRep:R2:=fun x y H Q=>∃l k xs,x= .ref l∧y= .int k∧H l=some (.lst xs)∧ -(2 ^ 63)≤k∧k < 2 ^ 63∧xs.length * k.toNat≤sizeLine∧
 ∀p,H p=none→Q (.ref p) (upd H p (.lst (List.replicate k.toNat xs).flatten))
theorem ck_0{α:Type}(xs:List α)(k:Nat):(List.replicate k xs).flatten.length=k * xs.length:=by
 induction k with
 |zero=>simp
 |succ k ih=>rw [List.replicate_succ,List.flatten_cons,List.length_append,ih,Nat.succ_mul,Nat.add_comm]
theorem ct_9:OpR X (binaryOp .Mult) rRep:=by
 intro zd s σ H x y v u Q I rx ry h;obtain⟨l,k,xs,rfl,rfl,hH,h1,h2,hz,q⟩:=h;cases rx;obtain⟨t,rfl⟩:=ry;obtain⟨z,its,n,r,hl,e⟩:=I.lstM hH;have zk:its.toArray.size * k.toNat≤sizeLine:=by rw [List.size_toArray,←hl];exact hz
 have dn:¬its.toArray.size * k.toNat > (2 ^ 63 - 1) / 8:=by
  have:(sizeLine:Nat)≤(2 ^ 63 - 1) / 8:=by decide
  omega
 have dw:¬(!Builtin.List.listFitsIndex k)=true:=by
  rw [fitsIndex_both h1 h2];exact Bool.false_ne_true
 have bw:¬Builtin.List.listTooLong (its.toArray.size * k.toNat)=true:=by
  rw [cb_6 zk];exact Bool.false_ne_true
 have dg:List.foldl (fun x1 x2=>x1 ++ x2) #[] (List.replicate (if its.toArray.isEmpty=true then 0 else k.toNat) its.toArray)=(List.replicate k.toNat its).flatten.toArray:=by
  have f0:∀m:Nat,List.foldl (fun x1 x2=>x1 ++ x2) #[] (List.replicate m its.toArray)=(List.replicate m its).flatten.toArray:=fun m=>by
   have:=au_1 its m [];rw [List.nil_append] at this;exact this
  rw [f0];cases its with
  |nil=>simp
  |cons a r'=>rw [if_neg (by simp)]
 refine wpAny_binaryOp_repeat_ref (T:= "list") (U:= "int") (by decide) ⟨_,e,rfl⟩ (fun s'=>typeIs_int s' k t) noFill_list_mul F.fills_int_mul F.slot_int_rmul repeat_list F.slot_int_index.lookup
  (call_meets F.slot_int_rmul (typeIs_int s k t) F.entry_int_rmul (F.args_int_rmul_2 _ _) (int___rmul___int_list k t l its.toArray n)
   ⟨e,rfl,⟨_,e,rfl⟩,call_meets F.slot_list_mul ⟨_,e,rfl⟩ F.entry_list_mul (F.args_list_mul_2 _ _) (AutoListH.list___mul___list_int_3 l its.toArray n k t dw dn bw) ⟨e, ?_⟩⟩)
 rw [dg];exact⟨.ref _,_,I.lnew (t':=s.toks) (r.rep k.toNat) (by rw [ck_0,Nat.mul_comm];exact hz),rfl,q _ I.fresh⟩
end
section
variable{prog:Program}{w:World}{A:Around}{E:Value→Shared→Prop}{s:Shared}
end
section
variable{X:Cx}
end
end L2
namespace Att
open PySem PySem.W PySem.Calls PyProof.Rows
theorem al_1{P:Params}{h:Heap}:∀(ns:List Int) (vs:List Value),WellAll P h vs (ns.map WData.int)→IntsAre vs ns:=by
 intro ns
 induction ns with
 |nil=>
  intro vs w;rw [List.map_nil] at w;cases w;exact .nil
 |cons n ns ih=>
  intro vs w;rw [List.map_cons] at w;cases w with
  |cons a b=>
   cases a;exact .cons _ _ (ih _ b)
theorem bv_6{l:OpenLaw}{n:Nat}(hn:l.most=some n){P:Params}{h:Heap}{args:List WData}{vals:List Value}
  (bg:l.row.toRowW.claim.pre args=true) (hwl:WellAll P h vals args):
  ∃a vs ns,vals= [Value.ref a]∧args= [WData.list (ns.map WData.int)]∧h.get? a=some {cls:= .type "list",data:= .seq vs.toArray}∧IntsAre vs ns∧ns.length≤n:=by
 have hsh:WShape.hasAll [] args [.list .int]=true:=(pre_splitW bg).1;have hc:l.pre.holds [] {args:=args}=true:=(pre_splitW bg).2;obtain⟨d,r,rfl,h1,h2⟩:=hasAllW_cons hsh;obtain rfl:=hasAllW_nil h2;obtain⟨xs,rfl,h3⟩:=hasW_list h1;obtain⟨ns,rfl⟩:=items_int h3;have zk:ns.length≤n:=by
  unfold OpenLaw.pre at hc;have h4:(WTm.not (.lt (.lit (.int (n:Int))) (.len (.arg 0)))).holds [] {args:= [.list (ns.map .int)]}=true:=by
   have h4:=(holds_andW hc).1;rw [hn] at h4;exact h4
  have h5:=condW_of h4 (w_not (w_lt w_lit (w_len_list (w_arg rfl))));rw [List.length_map] at h5;refine Nat.le_of_not_lt fun q=> ?_;have q':(n:Int) < ((ns.length:Nat):Int):=by omega
  first
   |(rw [decide_eq_true q'] at h5;exact absurd h5 (by decide))
   |(simp at h5;omega)
 cases hwl with
 |cons w1 w2=>
  cases w2;cases w1 with
  |list ho hall=>exact⟨_,_,ns,rfl,rfl,ho,al_1 ns _ hall,zk⟩
theorem bv_7(l:OpenLaw)(args:List WData):l.row.toRowW.claim.post args (.bool true) args=true:=
 postW_of (r:=l.row.toRowW) (X:=(true ==true))
  (show WShape.has [] (.bool true) .bool=true by first|rfl|decide|simp [WShape.has,WShape.arms,WShape.armsAll])
  (show(WTm.eq .res (.lit (.bool true))).value [] {args:=args,res:=some (.bool true),after:=args}=some (.bool (true ==true)) from w_eq_bool (w_res rfl) w_lit) rfl
theorem attach_call{l:OpenLaw}{n:Nat}{q:Program}{loose:List Str}{XP:(Str→Option Value)→Heap→Prop}{YP:World→Heap→Prop}{d:DefRec}
  (hn:l.most=some n) (hdf:d.params.defaults= [])
  (call:∀(w:World) (s₀ s₁:Shared) (mg mb:Str→Option Value) (fa:Addr) (o:Obj) (pm cd doc:Value) (a:Addr) (vs:List Value) (ns:List Int),
   Ground q loose [] XP w s₀ mg mb s₁.heap→YP w s₁.heap→
   s₁.heap.get? fa=some o→o.data= .func (docDef d.name d.params d.body d.scope pm cd doc)→s₁.heap.CodeRec cd d.name→mg d.name=some (.ref fa)→
   s₁.heap.get? a=some {cls:= .type "list",data:= .seq vs.toArray}→IntsAre vs ns→ns.length≤n→s₁.gens= #[]→
   codeAny (model l.prog w) callerA (.call (.ref fa) ⟨[.ref a], []⟩) (fun r s'=>r= .ok (.ret (.bool true))∧OldK s₁.heap s'.heap∧s'.os=s₁.os∧AllBare s'.gens) s₁):
  WalkO q loose XP YP l.row.toRowW d [] (fun f vs=>PySem.call f vs):=by
 intro w s₀ s₁ mg mb G Y fa o pm cd doc dV kV ho hd hcd hD hmg hg args vals as bg hlay hrd hwl hlo;obtain rfl:dV= .none:=Dflts.none hD hdf;obtain rfl:kV= .none:=Dflts.noKw hD;obtain⟨a,vs,ns,rfl,rfl,az,hints,zk⟩:=bv_6 hn bg hwl;refine enter_call (codeAny_mono (call w s₀ s₁ mg mb fa o pm cd doc a vs ns G Y ho (fd_plain hd) hcd hmg az hints zk hg) fun r s' hq=> ?_);obtain⟨rfl,h2,h3,h4⟩:=hq;exact⟨.inl ⟨.bool true, .bool true, [],rfl,fun _=>rfl, .bool true,bv_7 l _,fun _=>⟨List.Pairwise.nil,fun _ hm=>(nomatch hm)⟩⟩,h2,h3,h4⟩
section
variable{prog:Program}{w:World}{A:Around}{E:Value→Shared→Prop}{s:Shared}{K:Frag}
end
end Att
namespace L2
open PySem PySem.Spec PyProof.Rows
theorem au_3:∀{vs:List Value} {ns:List Int},IntsAre vs ns→Vals (ns.map V.int) vs
 |_,_, .nil=> .nil
 |_,_, .cons n t h=> .cons ⟨t,rfl⟩ (au_3 h)
def Only(H:Hp):Prop:=∀b,H b=none∨∃o xs,H b=some (.frz o (.lst xs))
theorem cb_7{P:Program}{w:World}{K:Frag}{mg mb:Str→Option Value}{CX:CXT}{k:Nat}{fa a:Addr}{fd:FuncData}{x:Str}{sp:Sp}{s₁:Shared}{vs:List Value}{ns:List Int}
  (KX:K.In s₁.heap) (hns:s₁.heap.Ns mainGlobals mg) (hb:s₁.heap.Ns builtinsNs mb) (hbb:∀x:Str,x≠ "__name__" →mb x=bootBuiltins x) (dk:s₁.heap.NoLimit) (hg:s₁.gens= #[])
  (ha:s₁.heap.get? a=some {cls:= .type "list",data:= .seq vs.toArray}) (hi:IntsAre vs ns) (hl:ns.length≤sizeLine) (hr:Room k callerA)
  (F:∀base:Heap,K.In base→base.Ns mainGlobals mg→FnOk P w K mg base CX k fa fd [x] sp) (cu:∀(s:Shared) (u:Value),BindsTo s fd ⟨[u], []⟩ [(x,u)])
  (hsp:∀H:Hp,Only H→SqL K H a (ns.map V.int)→sp [.ref a] H (fun v _=>v= .bl true) fun _ _ _=>False)
  (hCX:∀H e s',CX [] H s₁ (fun _ _ _=>False) e s'→False):
  codeAny (model P w) callerA (.call (.ref fa) ⟨[.ref a], []⟩) (fun r s'=>r= .ok (.ret (.bool true))∧OldK s₁.heap s'.heap∧s'.os=s₁.os∧AllBare s'.gens) s₁:=by
 have rv:=au_3 hi;have eh:=hi.length
 
 have core:∀H:Hp,Only H→SqL K H a (ns.map V.int)→HOk P w H s₁.heap→(∀b,H b≠none→b=a)→(H a≠none→K.lookup a=none)→
   codeAny (model P w) callerA (.call (.ref fa) ⟨[.ref a], []⟩) (fun r s'=>r= .ok (.ret (.bool true))∧OldK s₁.heap s'.heap∧s'.os=s₁.os∧AllBare s'.gens) s₁:=by
  intro H hO hS hok hA hK;have ao:∀{b:Addr} {o:Obj},s₁.heap.get? b=some o→H b=none→(hidT s₁.heap H).get? b=some o:=fun e n=>bz_8 e n;have noA:∀{b:Addr} {o:Obj} {es:Array DictEntry} {ep:Nat},s₁.heap.get? b=some o→o.data= .dict es ep→H b=none:=fun{b o es ep} e d=>by
   cases q:H b with
   |none=>rfl
   |some u=>
    have e':b=a:=hA b (by rw [q];simp);subst e';rw [ha] at e;cases e;have d':Data.seq vs.toArray _=Data.dict es ep:=d;cases d'
  have nsK:∀{b:Addr} {m:Str→Option Value},s₁.heap.Ns b m→(hidT s₁.heap H).Ns b m:=fun{b m} ⟨o,es,ep,e,d,r⟩=>⟨o,es,ep,ao e (noA e d),d,r⟩;have hKb:K.In (hidT s₁.heap H):=fun b o e=>ao (KX b o e) (by
   cases q:H b with
   |none=>rfl
   |some u=>
    have e':b=a:=hA b (by rw [q];simp);subst e';rw [hK (by rw [q];simp)] at e;cases e)
  have hM:Mod K mg (hidT s₁.heap H):=⟨hKb,nsK hns,⟨mb,nsK hb,hbb⟩,let⟨mc,h1,h2⟩:=dk;⟨mc,nsK h1,h2⟩⟩;have e0:Env0 P w K mg (hidT s₁.heap H) callerA [] s₁ H:=⟨rfl,hM,fun b o e=>ci_6 e,Nat.le_of_eq (bu_5 _ _),trivial,fun b hb=>absurd (show b∈([]:List Addr) from hb) (by simp),hok, .of_eq hg⟩;refine codeAny_mono ((F _ hKb (nsK hns)).run callerA [] s₁ H ⟨[.ref a], []⟩ [.ref a] [.ref a] _ _ hr e0 (cu s₁ (.ref a)) (.cons rfl .nil) (hsp H hO hS)) fun r s' h=> ?_;cases r with
  |error e=>exact(hCX H e s' h).elim
  |ok fl=>
   cases fl with
   |next=>exact False.elim h
   |brk=>exact False.elim h
   |cont=>exact False.elim h
   |ret u=>
    obtain⟨v,H',os,bare,un,fb,r',q⟩:=h;have q':v= .bl true:=q;subst q';obtain rfl:u=Value.bool true:=r';refine⟨rfl,OldK.of_keep fun b o e=> ?_,os,bare⟩;cases q:H b with
    |none=>exact un.keep b o e q (by intro z;exact absurd (show b∈([]:List Addr) from z) (by simp)) (by simp)
    |some u=>
     rcases hO b with z|⟨ob,xs,z⟩
     ·rw [q] at z;cases z
     ·have z2:=un.frzs b ob _ z;obtain⟨e1,_⟩:=hok b _ z;obtain⟨e2,_⟩:=fb b _ z2;rw [e] at e1;cases e1;exact e2
 cases hk:K.lookup a with
 |some o=>
  
  have e:=KX a o hk;rw [ha] at e;cases e;refine core (fun _=>none) (fun _=> .inl rfl) (.inr ⟨_,vs.toArray,_,hk,rfl,rfl,rfl,by rw [List.size_toArray,eh];exact hl,by simpa using rv⟩) (fun b u z=>by have z':(none:Option HO)=some u:=z;cases z') (fun b z=>absurd rfl z) fun z=>absurd rfl z
 |none=>
  refine core (fun b=>if b=a then some (.frz {cls:= .type "list",data:= .seq vs.toArray} (.lst (ns.map V.int))) else none) (fun b=> ?_) (.inl (.inr ⟨{cls:= .type "list",data:= .seq vs.toArray},if_pos rfl⟩)) (fun b u z=> ?_) (fun b z=> ?_) fun _=>hk
  ·by_cases hb:b=a
   ·exact .inr ⟨_,_,if_pos hb⟩
   ·exact .inl (if_neg hb)
  ·by_cases hb:b=a
   ·have z':=(if_pos hb).symm.trans z;cases z';subst hb;exact⟨ha,by rw [List.length_map];exact hl,vs,_,rv,ha⟩
   ·have z':=(if_neg hb).symm.trans z;cases z'
  ·by_cases hb:b=a
   ·exact hb
   ·exact absurd (if_neg hb) z
theorem ck_1{l:PySem.W.OpenLaw}{n k:Nat}{q:Program}{loose:List Str}{XP:(Str→Option Value)→Heap→Prop}{YP:World→Heap→Prop}{d:DefRec}{K:Params→Frag}{CX:World→CXT}{sp:World→Sp}{x:Str}
  (hn:l.most=some n) (hn2:n≤sizeLine) (hdf:d.params.defaults= []) (hr:Room k callerA)
  (hY:∀(w:World) (h:Heap),YP w h→(K w.params).In h)
  (F:∀(w:World) (mg:Str→Option Value) (fa:Addr) (h:Heap),(K w.params).In h→h.Ns mainGlobals mg→mg d.name=some (.ref fa)→
   ∃fd:FuncData,(∀(s:Shared) (u:Value),BindsTo s fd ⟨[u], []⟩ [(x,u)])∧
    ∀base:Heap,(K w.params).In base→base.Ns mainGlobals mg→FnOk l.prog w (K w.params) mg base (CX w) k fa fd [x] (sp w))
  (hsp:∀(w:World) (H:Hp) (a:Addr) (ns:List Int),ns.length≤n→Only H→SqL (K w.params) H a (ns.map V.int)→sp w [.ref a] H (fun v _=>v= .bl true) fun _ _ _=>False)
  (hCX:∀(w:World) (H:Hp) (s:Shared) (e:Value) (s':Shared),CX w [] H s (fun _ _ _=>False) e s'→False):
  PySem.W.WalkO q loose XP YP l.row.toRowW d [] (fun f vs=>PySem.call f vs):=by
 refine Att.attach_call hn hdf fun w s₀ s₁ mg mb fa o pm cd doc a vs ns G Y ho hd hcd hmg az hints zk hg=> ?_;have KX:=hY w _ Y;obtain⟨fd,hb,hF⟩:=F w mg fa _ KX G.T.g hmg;exact cb_7 KX G.T.g G.T.b G.T.builtins G.T.nolimit hg az hints (Nat.le_trans zk hn2) hr hF hb (fun H hO hS=>hsp w H a ns zk hO hS) fun H e s'=>hCX w H s₁ e s'
def h_4(s:Stmt):Arguments:=match s with
 | .FunctionDef _ a _ _ _ _ _ _ _ _=>a
 |_=>{posonlyargs:= [],args:= [],vararg:=none,kwonlyargs:= [],kw_defaults:= [],kwarg:=none,defaults:= []}
def e_2(s:Stmt):List Stmt:=match s with
 | .FunctionDef _ _ b _ _ _ _ _ _ _=>b
 |_=> []
def b_0(s:Stmt):Scope:=match s with
 | .FunctionDef _ _ _ _ _ _ sc _ _ _=>sc
 |_=>{kind:= .function,names:= [],isGenerator:=false,isCoroutine:=false}
abbrev CX0:CXT:=fun _ _ _ _ _ _=>False
abbrev E0:XK:=fun _ _ _=>False
structure Fun(K:Frag)(x qual:Str)(st:Stmt)(f:Addr)(fd:FuncData):Prop where
 ex:∃(oc:Value) (od:Option Addr) (kV doc pm:Value) (an:Option Addr) (zn ct:Value) (osl:Array (Option Value)),
  fd=fnOf x qual (h_4 st) (e_2 st) (b_0 st) .none kV doc pm an zn ct∧K.lookup f=some ⟨oc,od, .func fd,osl⟩∧codeIn K zn qual=true
 kp:keepIn K (.ref f)=true
section
variable{P:Program}{w:World}{K:Frag}{mg:Str→Option Value}{base:Heap}
theorem Fun.binds{x qual:Str}{st:Stmt}{f:Addr}{fd:FuncData}{ps:List Str}(F:Fun K x qual st f fd)
  (h:∀(kV doc pm:Value) (an:Option Addr) (zn ct:Value) (us:List Value),us.length=ps.length→bindArgs (fnOf x qual (h_4 st) (e_2 st) (b_0 st) .none kV doc pm an zn ct) ⟨us, []⟩=pure (ps.zip us)):Binds K fd ps []:=by
 obtain⟨oc,od,kV,doc,pm,an,zn,ct,osl,rfl,lk,hcd⟩:=F.ex;exact .all (h kV doc pm an zn ct)
theorem an_4{x qual:Str}{st:Stmt}{f:Addr}{oc:Value}{od an:Option Addr}{osl:Array (Option Value)}{kV doc pm zn ct:Value}(l:K.lookup f=some ⟨oc,od, .func (fnOf x qual (h_4 st) (e_2 st) (b_0 st) .none kV doc pm an zn ct),osl⟩)
  (c:codeIn K zn qual=true) (k:keepIn K (.ref f)=true):Fun K x qual st f (fnOf x qual (h_4 st) (e_2 st) (b_0 st) .none kV doc pm an zn ct):=⟨⟨oc,od,kV,doc,pm,an,zn,ct,osl,rfl,l,c⟩,k⟩
end
section
variable{X:Cx}
end
def Same(H H':Hp):Prop:=∀b o,H b=some o→H' b=some o
theorem Same.refl(H:Hp):Same H H:=fun _ _ h=>h
theorem Same.trans{H H1 H2:Hp}(a:Same H H1)(b:Same H1 H2):Same H H2:=fun c o h=>b c o (a c o h)
theorem Same.free{H H':Hp}(e:Same H H'){l:Addr}(h:H' l=Option.none):H l=Option.none:=by
 cases q:H l with
 |none=>rfl
 |some o=>
  rw [e l o q] at h;cases h
theorem Same.seq{K:Frag}{H H':Hp}{a:Addr}{xs:List V}(e:Same H H')(h:SqL K H a xs):SqL K H' a xs:=by
 rcases h with(h|⟨o,h⟩)|h
 ·exact .inl (.inl (e _ _ h))
 ·exact .inl (.inr ⟨o,e _ _ h⟩)
 ·exact .inr h
end L2
namespace L3
open PySem PySem.Spec PyProof.Rows L2
variable{K:Frag}{fd:FuncData}{mg:Str→Option Value}{P:Program}{vs:List V}{us:List Value}{base:Heap}{H:Hp}{X:Cx}{pos:Pos}{v:V}
abbrev Sg:=L2.St
inductive D where
 |non|bl (b:Bool)|int (i:Int)|str (x:Str)|lst (ds:List D)|tup (ds:List D)|dic (kvs:List (Key×D))
 |exn (c:Str) (ns:List Str) (vs:List D)|obj (c:Str) (ns:List Str) (vs:List D)
structure Xn where
 c:Str
 ns:List Str
 vs:List D
inductive R(α:Type) where
 |ok (a:α)|ex (x:Xn)|no
namespace R
def bind{α β:Type}(r:R α)(k:α→R β):R β:=match r with
 | .ok a=>k a
 | .ex x=> .ex x
 | .no=> .no
@[simp] theorem bind_ok{α β:Type}(a:α)(k:α→R β):(R.ok a).bind k=k a:=rfl
@[simp] theorem bind_ex{α β:Type}(x:Xn)(k:α→R β):(R.ex x).bind k= .ex x:=rfl
@[simp] theorem bind_no{α β:Type}(k:α→R β):(R.no).bind k= .no:=rfl
end R
inductive Tn where
 |sh (d:D)|lst (ts:List Tn)|tup (ts:List Tn)|dic (zm:List (Key×Tn))|obj (c:Str) (ns:List Str) (ts:List Tn)
mutual
def Tn.d:Tn→D
 | .sh d=>d
 | .lst ts=> .lst (Tn.ds ts)
 | .tup ts=> .tup (Tn.ds ts)
 | .dic zm=> .dic (Tn.ks zm)
 | .obj c ns ts=> .obj c ns (Tn.ds ts)
def Tn.ds:List Tn→List D
 | []=> []
 |t::ts=>t.d::Tn.ds ts
def Tn.ks:List (Key×Tn)→List (Key×D)
 | []=> []
 |(k,t)::ts=>(k,t.d)::Tn.ks ts
end
def Tn.of:D→Tn
 | .lst ds=> .lst (ds.map .sh)
 | .dic kvs=> .dic (kvs.map fun p=>(p.1, .sh p.2))
 | .obj c ns vs=> .obj c ns (vs.map .sh)
 |d=> .sh d
theorem Tn.ds_sh:∀ds:List D,Tn.ds (ds.map .sh)=ds
 | []=>rfl
 |d::ds=>by
  show(Tn.sh d).d::Tn.ds (ds.map .sh)=_;rw [Tn.ds_sh ds];rfl
theorem Tn.ks_sh:∀kvs:List (Key×D),Tn.ks (kvs.map fun p=>(p.1,Tn.sh p.2))=kvs
 | []=>rfl
 |(k,d)::kvs=>by
  show(k,(Tn.sh d).d)::Tn.ks (kvs.map fun p=>(p.1,Tn.sh p.2))=_;rw [Tn.ks_sh kvs];rfl
theorem Tn.ks_fst:∀zm:List (Key×Tn),(Tn.ks zm).map (·.1)=zm.map (·.1)
 | []=>rfl
 |(k,t)::zm=>by show k::(Tn.ks zm).map (·.1)=_;rw [Tn.ks_fst zm];rfl
theorem Tn.ks_snd:∀zm:List (Key×Tn),(Tn.ks zm).map (·.2)=Tn.ds (zm.map (·.2))
 | []=>rfl
 |(k,t)::zm=>by show t.d::(Tn.ks zm).map (·.2)=_;rw [Tn.ks_snd zm];rfl
theorem Tn.of_d(d:D):(Tn.of d).d=d:=by
 cases d with
 |lst ds=>show D.lst (Tn.ds (ds.map .sh))=_;rw [Tn.ds_sh]
 |dic kvs=>show D.dic (Tn.ks (kvs.map fun p=>(p.1, .sh p.2)))=_;rw [Tn.ks_sh]
 |obj c ns vs=>show D.obj c ns (Tn.ds (vs.map .sh))=_;rw [Tn.ds_sh]
 |_=>rfl
inductive W where
 |sh (d:D)|ow (d:D)|tr (t:Tn)
def W.d:W→D
 | .sh d=>d
 | .ow d=>d
 | .tr t=>t.d
@[simp] theorem W.d_sh(d:D):(W.sh d).d=d:=rfl
@[simp] theorem W.d_ow(d:D):(W.ow d).d=d:=rfl
@[simp] theorem W.d_tr(t:Tn):(W.tr t).d=t.d:=rfl
def ClsAt(K:Frag)(c:Str)(C:Addr):Prop:=nsIn K mainGlobals c=some (some (.ref C))
def XO(a C:Addr)(dx:Option Addr):HO:= .ext fun h=>∃us sl,h.get? a=some ⟨.ref C,dx, .fields us,sl⟩∧us[2]? =some .none
mutual
inductive Has(K:Frag)(G:Hp):V→D→Prop where
 |non:Has K G .non .non
 |bl (b:Bool):Has K G (.bl b) (.bl b)
 |int (i:Int):Has K G (.int i) (.int i)
 |str (x:Str):Has K G (.str x) (.str x)
 |lst {a:Addr} {vs:List V} {ds:List D} (h:SqL K G a vs) (r:HasL K G vs ds):Has K G (.ref a) (.lst ds)
 |tup {a:Addr} {vs:List V} {ds:List D} (h:SqT K G a vs) (r:HasL K G vs ds):Has K G (.ref a) (.tup ds)
 |exn0 {a C:Addr} {o:Obj} {c:Str} (hc:ClsAt K c C) (h:G a=some (.frz o (XO a C none))):Has K G (.ref a) (.exn c [] [])
 |exn1 {a C d:Addr} {o:Obj} {c:Str} {ns:List Str} {us:List V} {vs:List D} (hc:ClsAt K c C) (h:G a=some (.frz o (XO a C (some d)))) (hd:G d=some (.xd (ns.zip us))) (hl:ns.length=us.length) (r:HasL K G us vs):Has K G (.ref a) (.exn c ns vs)
 |dic {a:Addr} {kvs:List (Key×V)} {kds:List (Key×D)} (h:Rd G a (.dK kvs)) (hk:kvs.map (·.1)=kds.map (·.1)) (r:HasL K G (kvs.map (·.2)) (kds.map (·.2))):Has K G (.ref a) (.dic kds)
 |obj {a C dx:Addr} {c:Str} {ns:List Str} {us:List V} {vs:List D} (hc:ClsAt K c C) (h:G a=some (.ins C dx (ns.zip us))) (hl:ns.length=us.length) (r:HasL K G us vs):Has K G (.ref a) (.obj c ns vs)
inductive HasL(K:Frag)(G:Hp):List V→List D→Prop where
 |nil:HasL K G [] []
 |cons {v:V} {d:D} {vs:List V} {ds:List D} (h:Has K G v d) (r:HasL K G vs ds):HasL K G (v::vs) (d::ds)
end
abbrev AS:=Addr→Prop
mutual
inductive Ow(K:Frag)(G H:Hp):V→Tn→AS→Prop where
 |sh {v:V} {d:D} {S:AS} (h:Has K G v d):Ow K G H v (.sh d) S
 |lst {a:Addr} {vs:List V} {ts:List Tn} {S S1:AS} (h:H a=some (.lst vs)) (ha:S a) (sub:∀b,S1 b→S b∧b≠a) (r:OwL K G H vs ts S1):Ow K G H (.ref a) (.lst ts) S
 |tup {a:Addr} {vs:List V} {ts:List Tn} {S S1:AS} (h:H a=some (.tup vs)) (ha:S a) (sub:∀b,S1 b→S b∧b≠a) (r:OwL K G H vs ts S1):Ow K G H (.ref a) (.tup ts) S
 |dic {a:Addr} {kvs:List (Key×V)} {zm:List (Key×Tn)} {S S1:AS} (h:H a=some (.dK kvs)) (hk:kvs.map (·.1)=zm.map (·.1)) (ha:S a) (sub:∀b,S1 b→S b∧b≠a) (r:OwL K G H (kvs.map (·.2)) (zm.map (·.2)) S1):Ow K G H (.ref a) (.dic zm) S
 |obj {a C dx:Addr} {c:Str} {ns:List Str} {us:List V} {ts:List Tn} {S S1:AS} (hc:ClsAt K c C) (h:H a=some (.ins C dx (ns.zip us))) (hl:ns.length=us.length) (ha:S a) (sub:∀b,S1 b→S b∧b≠a) (r:OwL K G H us ts S1):Ow K G H (.ref a) (.obj c ns ts) S
inductive OwL(K:Frag)(G H:Hp):List V→List Tn→AS→Prop where
 |nil {S:AS}:OwL K G H [] [] S
 |cons {v:V} {t:Tn} {vs:List V} {ts:List Tn} {S S1 S2:AS} (h:Ow K G H v t S1) (r:OwL K G H vs ts S2) (dj:∀b,S1 b→S2 b→False) (s1:∀b,S1 b→S b) (s2:∀b,S2 b→S b):OwL K G H (v::vs) (t::ts) S
end
theorem Same.rdD{H H':Hp}{a:Addr}{u:HO}(e:Same H H')(h:Rd H a u):Rd H' a u:=by
 rcases h with h|⟨o,h⟩
 ·exact .inl (e _ _ h)
 ·exact .inr ⟨o,e _ _ h⟩
theorem Same.tupS{H H':Hp}{a:Addr}{xs:List V}(e:Same H H')(h:SqT K H a xs):SqT K H' a xs:=by
 rcases h with(h|⟨o,h⟩)|h
 ·exact .inl (.inl (e _ _ h))
 ·exact .inl (.inr ⟨o,e _ _ h⟩)
 ·exact .inr h
mutual
theorem Has.mono{G G':Hp}(e:Same G G'):∀{v:V} {d:D},Has K G v d→Has K G' v d
 |_,_, .non=> .non
 |_,_, .bl b=> .bl b
 |_,_, .int i=> .int i
 |_,_, .str x=> .str x
 |_,_, .lst h r=> .lst (e.seq h) (HasL.mono e r)
 |_,_, .tup h r=> .tup (Same.tupS e h) (HasL.mono e r)
 |_,_, .exn0 hc h=> .exn0 hc (e _ _ h)
 |_,_, .exn1 hc h hd hl r=> .exn1 hc (e _ _ h) (e _ _ hd) hl (HasL.mono e r)
 |_,_, .dic h hk r=> .dic (Same.rdD e h) hk (HasL.mono e r)
 |_,_, .obj hc h hl r=> .obj hc (e _ _ h) hl (HasL.mono e r)
theorem HasL.mono{G G':Hp}(e:Same G G'):∀{vs:List V} {ds:List D},HasL K G vs ds→HasL K G' vs ds
 |_,_, .nil=> .nil
 |_,_, .cons h r=> .cons (Has.mono e h) (HasL.mono e r)
end
theorem HasL.length{G:Hp}:∀{vs:List V} {ds:List D},HasL K G vs ds→vs.length=ds.length
 |_,_, .nil=>rfl
 |_,_, .cons _ r=>by rw [List.length_cons,List.length_cons,r.length]
theorem HasL.append{G:Hp}:∀{vs ws:List V} {ds es:List D},HasL K G vs ds→HasL K G ws es→HasL K G (vs ++ ws) (ds ++ es)
 |_,_,_,_, .nil,s=>s
 |_,_,_,_, .cons h r,s=> .cons h (r.append s)
theorem HasL.get{G:Hp}:∀{vs:List V} {ds:List D} {i:Nat} {d:D},HasL K G vs ds→ds[i]? =some d→∃v,vs[i]? =some v∧Has K G v d
 |_,_,_,_, .nil,e=>by simp at e
 |_,_,0,_, .cons h _,e=>by simp at e;subst e;exact⟨_,rfl,h⟩
 |_,_,i + 1,d, .cons _ r,e=>by
  obtain⟨u,h1,h2⟩:=HasL.get (i:=i) (d:=d) r (by simpa using e);exact⟨u,by simpa using h1,h2⟩
theorem HasL.take{G:Hp}:∀{vs:List V} {ds:List D} (n:Nat),HasL K G vs ds→HasL K G (vs.take n) (ds.take n)
 |_,_,0,_=> .nil
 |_,_,_ + 1, .nil=> .nil
 |_,_,n + 1, .cons h r=> .cons h (HasL.take n r)
theorem HasL.drop{G:Hp}:∀{vs:List V} {ds:List D} (n:Nat),HasL K G vs ds→HasL K G (vs.drop n) (ds.drop n)
 |_,_,0,r=>r
 |_,_,_ + 1, .nil=> .nil
 |_,_,n + 1, .cons _ r=>HasL.drop n r
theorem HasL.set{G:Hp}{d:D}(h:Has K G v d):∀{vs:List V} {ds:List D} (i:Nat),HasL K G vs ds→HasL K G (vs.set i v) (ds.set i d)
 |_,_,_, .nil=> .nil
 |_,_,0, .cons _ r=> .cons h r
 |_,_,i + 1, .cons q r=> .cons q (HasL.set h i r)
mutual
theorem Ow.mono{G G' H H':Hp}(e:Same G G'):∀{v:V} {d:Tn} {S S':AS},Ow K G H v d S→(∀b o,S b→H b=some o→H' b=some o)→(∀b,S b→S' b)→Ow K G' H' v d S'
 |_,_,_,_, .sh h,_,_=> .sh (h.mono e)
 |_,_,_,_, .lst h ha sub r,f,i=> .lst (f _ _ ha h) (i _ ha) (fun b hb=>⟨i b (sub b hb).1,(sub b hb).2⟩) (OwL.mono e r (fun b o hb q=>f b o (sub b hb).1 q) fun _ q=>q)
 |_,_,_,_, .tup h ha sub r,f,i=> .tup (f _ _ ha h) (i _ ha) (fun b hb=>⟨i b (sub b hb).1,(sub b hb).2⟩) (OwL.mono e r (fun b o hb q=>f b o (sub b hb).1 q) fun _ q=>q)
 |_,_,_,_, .dic h hk ha sub r,f,i=> .dic (f _ _ ha h) hk (i _ ha) (fun b hb=>⟨i b (sub b hb).1,(sub b hb).2⟩) (OwL.mono e r (fun b o hb q=>f b o (sub b hb).1 q) fun _ q=>q)
 |_,_,_,_, .obj hc h hl ha sub r,f,i=> .obj hc (f _ _ ha h) hl (i _ ha) (fun b hb=>⟨i b (sub b hb).1,(sub b hb).2⟩) (OwL.mono e r (fun b o hb q=>f b o (sub b hb).1 q) fun _ q=>q)
theorem OwL.mono{G G' H H':Hp}(e:Same G G'):∀{vs:List V} {ds:List Tn} {S S':AS},OwL K G H vs ds S→(∀b o,S b→H b=some o→H' b=some o)→(∀b,S b→S' b)→OwL K G' H' vs ds S'
 |_,_,_,_, .nil,_,_=> .nil
 |_,_,_,_, .cons h r dj s1 s2,f,i=> .cons (Ow.mono e h (fun b o hb q=>f b o (s1 b hb) q) fun _ q=>q) (OwL.mono e r (fun b o hb q=>f b o (s2 b hb) q) fun _ q=>q) dj (fun b q=>i b (s1 b q)) fun b q=>i b (s2 b q)
end
mutual
theorem Ow.has{G G' H:Hp}(e:Same G G'):∀{v:V} {d:Tn} {S:AS},Ow K G H v d S→(∀b o,S b→H b=some o→G' b=some o)→Has K G' v d.d
 |_,_,_, .sh h,_=>h.mono e
 |_,_,_, .lst h ha sub r,f=> .lst (SqL.of (f _ _ ha h)) (OwL.has e r fun b o hb q=>f b o (sub b hb).1 q)
 |_,_,_, .tup h ha sub r,f=> .tup (SqT.of (f _ _ ha h)) (OwL.has e r fun b o hb q=>f b o (sub b hb).1 q)
 |_,_,_, .dic h hk ha sub r,f=> .dic (.inl (f _ _ ha h)) (by rw [Tn.ks_fst];exact hk) (by rw [Tn.ks_snd];exact OwL.has e r fun b o hb q=>f b o (sub b hb).1 q)
 |_,_,_, .obj hc h hl ha sub r,f=> .obj hc (f _ _ ha h) hl (OwL.has e r fun b o hb q=>f b o (sub b hb).1 q)
theorem OwL.has{G G' H:Hp}(e:Same G G'):∀{vs:List V} {ds:List Tn} {S:AS},OwL K G H vs ds S→(∀b o,S b→H b=some o→G' b=some o)→HasL K G' vs (Tn.ds ds)
 |_,_,_, .nil,_=> .nil
 |_,_,_, .cons h r dj s1 s2,f=> .cons (Ow.has e h fun b o hb q=>f b o (s1 b hb) q) (OwL.has e r fun b o hb q=>f b o (s2 b hb) q)
end
theorem OwL.of{G H:Hp}:∀{vs:List V} {ds:List D} {S:AS},HasL K G vs ds→OwL K G H vs (ds.map .sh) S
 |_,_,_, .nil=> .nil
 |_,_,_, .cons h r=> .cons (S1:=fun _=>False) (S2:=fun _=>False) (.sh h) (OwL.of r) (fun _ z _=>z) (fun _ z=>z.elim) fun _ z=>z.elim
theorem OwL.off{G H:Hp}:∀{vs:List V} {ds:List D} {S:AS},OwL K G H vs (ds.map .sh) S→HasL K G vs ds
 |_, [],_,h=>by cases h;exact .nil
 |_,d::ds,_,h=>by
  cases h with
  |cons h r dj s1 s2=>
   cases h with
   |sh h=>exact .cons h (OwL.off r)
theorem Ow.list{G H:Hp}{a:Addr}{ds:List D}{S:AS}(h:H a=some (.lst vs))(ha:S a)(r:HasL K G vs ds):Ow K G H (.ref a) (Tn.of (.lst ds)) S:=
 .lst (S1:=fun _=>False) h ha (fun _ z=>z.elim) (.of r)
theorem Ow.list_of{G H:Hp}{ds:List D}{S:AS}(t:Ow K G H v (Tn.of (.lst ds)) S):∃a vs,v= .ref a∧S a∧H a=some (.lst vs)∧HasL K G vs ds:=by
 cases t with
 |lst h ha sub r=>exact⟨_,_,rfl,ha,h,r.off⟩
theorem cb_8(kds:List (Key×D)):(kds.map fun p=>(p.1,Tn.sh p.2)).map (·.2)=(kds.map (·.2)).map Tn.sh:=by
 rw [List.map_map,List.map_map];rfl
theorem bq_1(kds:List (Key×D)):(kds.map fun p=>(p.1,Tn.sh p.2)).map (·.1)=kds.map (·.1):=by
 rw [List.map_map];rfl
theorem Ow.dict{G H:Hp}{a:Addr}{kvs:List (Key×V)}{kds:List (Key×D)}{S:AS}(h:H a=some (.dK kvs))(hk:kvs.map (·.1)=kds.map (·.1))(ha:S a)(r:HasL K G (kvs.map (·.2)) (kds.map (·.2))):Ow K G H (.ref a) (Tn.of (.dic kds)) S:=
 .dic (S1:=fun _=>False) h (by rw [bq_1];exact hk) ha (fun _ z=>z.elim) (by rw [cb_8];exact .of r)
theorem Ow.dict_of{G H:Hp}{kds:List (Key×D)}{S:AS}(t:Ow K G H v (Tn.of (.dic kds)) S):∃a kvs,v= .ref a∧S a∧H a=some (.dK kvs)∧kvs.map (·.1)=kds.map (·.1)∧HasL K G (kvs.map (·.2)) (kds.map (·.2)):=by
 generalize e:Tn.of (.dic kds)=t' at t;cases t with
 |dic h hk ha sub r=>
  injection e with e
  subst e;rw [cb_8] at r;rw [bq_1] at hk;exact⟨_,_,rfl,ha,h,hk,r.off⟩
 |_=>cases e
structure Step(G H G' H':Hp):Prop where
 hh:Same H H'
 gh:Same G' H'
 gg:Same G G'
 nw:∀b,G b=none→H b≠none→G' b=none
theorem Step.refl{G H:Hp}(h:Same G H):Step G H G H:=⟨Same.refl _,h,Same.refl _,fun _ e _=>e⟩
theorem Step.trans{G H G1 H1 G2 H2:Hp}(a:Step G H G1 H1)(b:Step G1 H1 G2 H2):Step G H G2 H2:=
 ⟨a.hh.trans b.hh,b.gh,a.gg.trans b.gg,fun c e n=>b.nw c (a.nw c e n) fun z=>n (a.hh.free z)⟩
theorem n_6{p:Addr}(h:H p=none)(o:HO):Same H (upd H p o):=fun b u q=>by rw [b_1 (c_2 q h)];exact q
theorem cb_9{G H:Hp}(h:Same G H)(p:Addr)(o:HO):Same (upd G p o) (upd H p o):=fun b u q=>by
 by_cases e:b=p
 ·subst e;rw [b_4] at q⊢;exact q
 ·rw [b_1 e] at q⊢;exact h b u q
theorem Step.new{G H:Hp}(h:Same G H){p:Addr}(e:H p=none)(o:HO):Step G H (L2.upd G p o) (L2.upd H p o):=
 ⟨n_6 e o,cb_9 h p o,n_6 (h.free e) o,fun b n z=>by
  by_cases q:b=p
  ·subst q;exact absurd e z
  ·rw [b_1 q];exact n⟩
theorem Step.own{G H:Hp}(h:Same G H){p:Addr}(e:H p=none)(o:HO):Step G H G (L2.upd H p o):=
 ⟨n_6 e o,h.trans (n_6 e o),Same.refl _,fun _ n _=>n⟩
open Classical in
def m_6(G H:Hp)(S:AS):Hp:=fun b=>if S b then H b else G b
def WP(K:Frag)(G H:Hp)(w:W)(Q:VK):Prop:=match w with
 | .sh d=>∀v G' H',Step G H G' H'→Has K G' v d→Q v H'
 | .ow d=>∀v S G' H',Step G H G' H'→(∀a,S a→H a=none∧G' a=none∧H' a≠none)→Ow K G' H' v (Tn.of d) S→Q v H'
 | .tr t=>∀v S G' H',Step G H G' H'→(∀a,S a→H a=none∧G' a=none∧H' a≠none)→Ow K G' H' v t S→Q v H'
structure EXT where
 p:Xn→Hp→Hp→Prop
 mono:∀x G H G' H',Step G H G' H'→p x G H→p x G' H'
def EX0:EXT:=⟨fun _ _ _=>False,fun _ _ _ _ _ _ h=>h⟩
abbrev EXS:=Sg→EXT
def n_5:EXS:=fun _=>EX0
def Out(K:Frag)(EX:EXT)(G H:Hp)(r:R W)(Q:VK):Prop:=match r with
 | .ok w=>WP K G H w Q
 | .ex x=>EX.p x G H
 | .no=>False
section
variable{K:Frag}{EX:EXT}{G H G' H':Hp}{Q Q':VK}{w:W}
theorem WP.mono(s:Step G H G' H')(h:WP K G H w Q):WP K G' H' w Q:=by
 cases w with
 |sh d=>exact fun v G2 H2 s2 r=>h v G2 H2 (s.trans s2) r
 |ow d=>exact fun v S G2 H2 s2 fr t=>h v S G2 H2 (s.trans s2) (fun a ha=>⟨s.hh.free (fr a ha).1,(fr a ha).2⟩) t
 |tr d=>exact fun v S G2 H2 s2 fr t=>h v S G2 H2 (s.trans s2) (fun a ha=>⟨s.hh.free (fr a ha).1,(fr a ha).2⟩) t
theorem Out.mono{r:R W}(s:Step G H G' H')(h:Out K EX G H r Q):Out K EX G' H' r Q:=by
 cases r with
 |ok w=>exact WP.mono s h
 |ex x=>exact EX.mono _ _ _ _ _ s h
 |no=>exact h
theorem WP.join{t:Tn}{S:AS}(h:∀v G' H',Step G H G' H'→Has K G' v t.d→Q v H')(s:Step G H G' H')(fr:∀a,S a→H a=none∧G' a=none∧H' a≠none)(t:Ow K G' H' v t S):Q v H':=by
 have sg:Same G' (m_6 G' H' S):=fun b o q=>by
  unfold m_6
  split
  ·rename_i hb;rw [(fr b hb).2.1] at q;cases q
  ·exact q
 refine h v (m_6 G' H' S) H' ⟨s.hh,fun b o q=> ?_,s.gg.trans sg,fun b n z=> ?_⟩ (t.has sg fun b o hb q=> ?_)
 ·unfold m_6 at q
  split at q
  ·exact q
  ·exact s.gh b o q
 ·unfold m_6
  split
  ·rename_i hb;exact absurd (fr b hb).1 z
  ·exact s.nw b n z
 ·unfold m_6;rw [if_pos hb];exact q
theorem WP.intro(h:∀v G' H',Step G H G' H'→Has K G' v w.d→Q v H'):WP K G H w Q:=by
 cases w with
 |sh d=>exact h
 |ow d=>exact fun v S G' H' s fr t=>WP.join (t:=Tn.of d) (by rw [Tn.of_d];exact h) s fr t
 |tr d=>exact fun v S G' H' s fr t=>WP.join h s fr t
theorem WP.sh(h:WP K G H (.sh w.d) Q):WP K G H w Q:=WP.intro h
theorem WP.use{d:D}(h:WP K G H (.sh d) Q)(s:Same G H)(r:Has K G v d):Q v H:=h v G H (Step.refl s) r
end
inductive ExcAt(K:Frag)(G:Hp):Value→Option Addr→Xn→Prop where
 |bare {C:Addr} {c:Str} (hc:ClsAt K c C):ExcAt K G (.ref C) none ⟨c, [], []⟩
 |with_ {C d:Addr} {c:Str} {ns:List Str} {us:List V} {vs:List D} (hc:ClsAt K c C) (hd:G d=some (.xd (ns.zip us))) (hl:ns.length=us.length) (r:HasL K G us vs):ExcAt K G (.ref C) (some d) ⟨c,ns,vs⟩
def EXof(K:Frag)(E:XK):EXT:=⟨fun x G H=>∀cls dx G' H',Step G H G' H'→ExcAt K G' cls dx x→E cls dx H',fun _ _ _ _ _ s h cls dx G2 H2 s2=>h cls dx G2 H2 (s.trans s2)⟩
def EXE(K:Frag)(EX:EXT):XK:=fun cls dx H=>∃x G,Same G H∧ExcAt K G cls dx x∧EX.p x G H
theorem EXE.of{E:XK}{cls:Value}{dx:Option Addr}(h:EXE K (EXof K E) cls dx H):E cls dx H:=by
 obtain⟨x,G,s,e,q⟩:=h;exact q cls dx G H (Step.refl s) e
theorem EXof.in{EX:EXT}{G H:Hp}{x:Xn}(q:EX.p x G H):(EXof K (EXE K EX)).p x G H:=fun _ _ G' H' st e=>⟨x,G',st.gh,e,EX.mono _ _ _ _ _ st q⟩
abbrev DE:=List (Option D)
abbrev FE:=DE→R W
abbrev FT:=DE→R Bool
abbrev FA:=DE→R (List D)
structure HasS(K:Frag)(G:Hp)(σ:Sg)(δ:DE):Prop where
 len:σ.length=δ.length
 get:∀(i:Nat) (d:D),δ[i]? =some (some d)→∃v,σ[i]? =some (some v)∧Has K G v d
theorem HasS.mono{G G':Hp}{σ:Sg}{δ:DE}(e:Same G G')(h:HasS K G σ δ):HasS K G' σ δ:=⟨h.len,fun i d q=>by
 obtain⟨v,e1,r⟩:=h.get i d q;exact⟨v,e1,r.mono e⟩⟩
def tD(K:Frag)(EX:EXS)(f:FE):TE:=fun σ H Q=>∃G δ,Same G H∧HasS K G σ δ∧Out K (EX σ) G H (f δ) Q
def tDt(K:Frag)(EX:EXS)(f:FT):TT:=fun σ H Q=>∃G δ,Same G H∧HasS K G σ δ∧match f δ with
 | .ok b=>∀G' H',Step G H G' H'→Q b H'
 | .ex x=>(EX σ).p x G H
 | .no=>False
def tDa(K:Frag)(EX:EXS)(f:FA):TA:=fun σ H Q=>∃G δ,Same G H∧HasS K G σ δ∧match f δ with
 | .ok ds=>∀vs G' H',Step G H G' H'→HasL K G' vs ds→Q vs H'
 | .ex x=>(EX σ).p x G H
 | .no=>False
abbrev ED(X:Cx)(EX:EXS)(e:Expr)(f:FE):Prop:=PE X e (tD X.K EX f)
abbrev TD(X:Cx)(EX:EXS)(e:Expr)(f:FT):Prop:=PT X e (tDt X.K EX f)
abbrev AD(X:Cx)(EX:EXS)(es:List Expr)(f:FA):Prop:=PA X es (tDa X.K EX f)
theorem PE.imp{e:Expr}{t t':TE}(h:PE X e t)(i:∀σ H Q,t' σ H Q→t σ H Q):PE X e t':=fun zd s σ H Q I q=>h zd s σ H Q I (i σ H Q q)
theorem PT.imp{e:Expr}{t t':TT}(h:PT X e t)(i:∀σ H Q,t' σ H Q→t σ H Q):PT X e t':=fun zd s σ H Q I q=>h zd s σ H Q I (i σ H Q q)
theorem PW.imp{e:Expr}{t t':TT}(h:PW X e t)(i:∀σ H Q,t' σ H Q→t σ H Q):PW X e t':=fun wh zd s σ H Q I q=>h wh zd s σ H Q I (i σ H Q q)
theorem PA.imp{e:List Expr}{t t':TA}(h:PA X e t)(i:∀σ H Q,t' σ H Q→t σ H Q):PA X e t':=fun pos zd s σ H Q I q=>h pos zd s σ H Q I (i σ H Q q)
theorem PS.imp{e:Stmt}{t t':TS}(h:PS X e t)(i:∀D σ H,t' D σ H→t D σ H):PS X e t':=fun zd s σ H D I q=>h zd s σ H D I (i D σ H q)
theorem PSs.imp{e:List Stmt}{t t':TS}(h:PSs X e t)(i:∀D σ H,t' D σ H→t D σ H):PSs X e t':=fun zd s σ H D I q=>h zd s σ H D I (i D σ H q)
section
variable{K:Frag}{EX:EXS}{G H:Hp}{σ:Sg}{δ:DE}{Q:VK}
theorem tD.seq{f:FE}{k:W→R W}{P:VK}(g:Same G H)(s:HasS K G σ δ)(h:Out K (EX σ) G H ((f δ).bind k) Q)
  (i:∀w v G' H',f δ= .ok w→Step G H G' H'→Has K G' v w.d→Out K (EX σ) G' H' (k w) Q→P v H'):tD K EX f σ H P:=by
 refine⟨G,δ,g,s, ?_⟩;cases e:f δ with
 |ok w=>
  rw [e] at h;exact WP.intro fun v G' H' st r=>i w v G' H' e st r (Out.mono st h)
 |ex x=>rw [e] at h;exact h
 |no=>rw [e] at h;exact h
theorem tDa.seq{f:FA}{k:List D→R W}{P:List V→Hp→Prop}(g:Same G H)(s:HasS K G σ δ)(h:Out K (EX σ) G H ((f δ).bind k) Q)
  (i:∀ds vs G' H',f δ= .ok ds→Step G H G' H'→HasL K G' vs ds→Out K (EX σ) G' H' (k ds) Q→P vs H'):tDa K EX f σ H P:=by
 refine⟨G,δ,g,s, ?_⟩;cases e:f δ with
 |ok w=>
  rw [e] at h;exact fun vs G' H' st r=>i w vs G' H' e st r (Out.mono st h)
 |ex x=>rw [e] at h;exact h
 |no=>rw [e] at h;exact h
end
theorem v_7{EX:EXT}{G H:Hp}{Q:VK}{ds:List D}(o:Out K EX G H (.ok (.ow (.lst ds))) Q)(g:Same G H)(r:HasL K G vs ds):∀p,H p=none→Q (.ref p) (upd H p (.lst vs)):=
 fun p hp=>o (.ref p) (fun b=>b=p) G _ (Step.own g hp _) (fun a e=>by subst e;exact⟨hp,g.free hp,by rw [b_4];simp⟩) (.list b_4 rfl r)
end L3
namespace L3
open PySem PySem.Spec PyProof.Rows L2
variable{K:Frag}{fd:FuncData}{mg:Str→Option Value}{P:Program}{vs:List V}{us:List Value}{base:Heap}{H:Hp}{X:Cx}{pos:Pos}{v:V}
def HdOk(A:Around)(h:Heap):Prop:=A.handled=none∨∃(x:Addr) (o:Obj) (us:Array Value),A.handled=some (.ref x)∧h.get? x=some o∧o.data= .fields us∧us[2]? =some .none
theorem HdOk.kept{A:Around}{h h':Heap}(z:HdOk A h)(k:∀(x:Addr) (o:Obj),A.handled=some (.ref x)→h.get? x=some o→h'.get? x=some o):HdOk A h':=by
 rcases z with z|⟨x,o,us,e,g,r⟩
 ·exact .inl z
 ·exact .inr ⟨x,o,us,e,k x o e g,r⟩
theorem ax_6:entryFor table "proto.unchain" =some Builtin.«proto.unchain»:=entryFor_of_tree (by kernel_rfl)
section
variable{prog:Program}{w:World}{A:Around}{E:Value→Shared→Prop}{s:Shared}
theorem ax_7{x:Addr}{o:Obj}{us:Array Value}{v sl:Value}{Q:Value→Shared→Prop}(g:s.heap.get? x=some o)(d:o.data= .fields us)(c:us[2]? =some .none)(q:Q .none s):
  wpAny (model prog w) A (runValue (.builtin "proto.unchain" ⟨[v, .ref x,sl, .bool false], []⟩)) Q E s:=by
 refine wpAny_runValue (codeAny_builtin ax_6 ?_);unfold Builtin.«proto.unchain»;refine wpAny_bind (wpAny_field g d c ?_)
 wp_walk
 exact q
theorem be_1{α:Type}{e:Addr}{oe:Obj}{ue:Array Value}{Q:α→Shared→Prop}(hd:HdOk A s.heap)(ge:s.heap.get? e=some oe)(de:oe.data= .fields ue)(z:2 < ue.size)(ne:A.handled≠some (.ref e))
  (h:∀h' o',h'.get? e=some o'→o'.cls=oe.cls→(∀b o,b≠e→s.heap.get? b=some o→h'.get? b=some o)→h'.objs.size=s.heap.objs.size→E (.ref e) {s with heap:=h'}):wpAny (model prog w) A (raiseNew (.ref e):Sem α) Q E s:=by
 rcases hd with hd|⟨x,o,us,hx,g,d,c⟩
 ·exact wpAny_raiseNew_none hd (by simpa using h s.heap oe ge rfl (fun _ _ _ q=>q) rfl)
 ·unfold raiseNew;refine wpAny_bind (wpAny_handled ?_);rw [hx];have nx:(Value.ref x != Value.ref e)=true:=by
   have:x≠e:=fun q=>ne (by rw [hx,q]);simp [bne,this]
  simp only [nx,if_true];refine wpAny_bind (wpAny_holding (ax_7 g d c ?_));unfold updateField;refine wpAny_bind (wpAny_bind (wpAny_load ge ?_));rw [de];simp only [z,if_true];refine wpAny_update ge (wpAny_throw ?_);refine h _ _ (Heap.get?_update_self _ ge (Obj.isFreed_of_fields (Obj.data_mapFields de _))) (Obj.cls_mapFields ..) (fun b o hb q=> ?_) ?_
  ·exact((Heap.SameBut.update s.heap e _).2 b hb).trans q
  ·simp
theorem ck_2{α:Type}{Q:α→Shared→Prop}(hd:HdOk A s.heap)
  (h:∀h' e,(∃o,h'.get? e=some o∧o.cls= .type "StopIteration")→(∀b o,s.heap.get? b=some o→h'.get? b=some o)→E (.ref e) {s with heap:=h'}):wpAny (model prog w) A (newExc (.type "StopIteration") [] >>=fun e=>(raiseNew e:Sem α)) Q E s:=by
 refine wpAny_bind ?_;unfold newExc newTuple;refine wpAny_bind (wpAny_newObj_type ?_ (by size_fits));refine wpAny_bind (wpAny_of_eq (a:=Value.none) (by simp only [firstArgMember];rfl) (wpAny_newObj_type ?_ (by size_fits)));have k:∀(h:Heap) (o1 o2:Obj) (b:Addr) (o:Obj),h.get? b=some o→((h.push o1).push o2).get? b=some o:=fun h o1 o2 b o q=>Heap.get?_push_of_some _ (Heap.get?_push_of_some _ q);have nw:∀(h:Heap) (o1:Obj),h.get? (h.push o1).objs.size=none:=fun h o1=>Heap.get?_none_of_le (by simp);refine be_1 (hd.kept fun x o _ g=>k _ _ _ x o g) (Heap.get?_push_size _ rfl) rfl (show 2 < 6 by decide) (fun z=> ?_) fun h' o' g' c' k' _=> ?_
 ·rcases hd with q|⟨x,o,us,q,g,_⟩
  ·rw [q] at z;cases z
  ·rw [q] at z;injection z with z;injection z with z;rw [z,nw] at g;cases g
 ·exact h h' _ ⟨o',g',c'⟩ fun b o q=>k' b o (fun z=>by rw [z,nw] at q;cases q) (k _ _ _ b o q)
theorem aj_3{it l:Addr}{i:Nat}{items:Array Value}{Q:Option Value→Shared→Prop}(hd:HdOk A s.heap)(nx:A.handled≠some (.ref it))(hit:s.heap.IsListIter it l i)(hl:s.heap.IsList l items)(hx:items[i]? =none)
  (q:∀h',Heap.ExtBut it s.heap h'→Q none {s with heap:=h'}):wpAny (model prog w) A (pyNext (.ref it)) Q E s:=by
 obtain⟨o,g,c,d⟩:=id hit;obtain⟨ol,gl,_,n,dl⟩:=hl;unfold pyNext;refine wpAny_bind (wpAny_attempt (wpAny_callSpecial?_slot hit.typeIs slot_listiter_next (wpAny_call_entry slot_listiter_next hit.typeIs entry_listiter_next ?_ (args_listiter_next _))));refine(show wpAny _ _ (field (.ref it) 0 >>=_) _ _ s from wpAny_bind (wpAny_field g d (x:= .ref l) rfl ?_));refine(show wpAny _ _ (if(Value.ref l ==Value.none)=true then _ else _) _ _ s from ?_);rw [if_neg (show¬(Value.ref l ==Value.none)=true from fun z=>Bool.false_ne_true z)];refine(show wpAny _ _ (field (.ref it) 1 >>=_) _ _ s from wpAny_bind (wpAny_field g d (x:= .int i 0) rfl ?_));refine(show wpAny _ _ (seqItems? (.ref l) >>=_) _ _ s from wpAny_bind (wpAny_seqItems gl dl ?_));simp only [Int.toNat_natCast,hx];refine wpAny_bind (wpAny_rule (wpAny_bind (wpAny_setField g d (by simp) ?_)));have sb:=Heap.SameBut.update s.heap it (Obj.mapFields (·.setIfInBounds 0 .none));refine ck_2 (A:=A.in1) (hd.kept (A:=A) fun x o e z=>(sb.2 x (fun z=>nx (by rw [e,z]))).trans z) fun h' e ⟨o',g',c'⟩ k=> ?_;refine wpAny_bind (wpAny_isInstance (T:= "StopIteration") (b:=true) ⟨o',g',c'⟩ isSubtype_stop (wpAny_pure (q _ fun b o hb z=>k b o ((sb.2 b hb).trans z))))
end
structure Tr(h:Heap)(a C:Addr)(dx:Option Addr)(fl:Value)(T:Addr):Prop where
 ob:∃o us,h.get? a=some o∧o.cls= .ref C∧o.dict=dx∧o.data= .fields us∧us[1]? =some (.ref T)∧us[2]? =some .none
 ne:T≠a
 tb:∃o us,h.get? T=some o∧o.data= .fields us∧us[3]? =some fl
structure KeepX(xs fr:List Addr)(h h':Heap):Prop where
 same:∀b o,b∉xs→b∉fr→h.get? b=some o→h'.get? b=some o
 slot:∀b o,b∉xs→h.get? b=some o→∃sl,h'.get? b=some {o with slots:=sl}
theorem KeepX.trans{xs ys fr:List Addr}{h1 h2 h3:Heap}(a:KeepX xs fr h1 h2)(b:KeepX ys fr h2 h3):KeepX (xs ++ ys) fr h1 h3:=
 ⟨fun c o n m e=>b.same c o (fun z=>n (List.mem_append_right _ z)) m (a.same c o (fun z=>n (List.mem_append_left _ z)) m e),fun c o n e=>by
  obtain⟨sl,e1⟩:=a.slot c o (fun z=>n (List.mem_append_left _ z)) e;obtain⟨sl',e2⟩:=b.slot c _ (fun z=>n (List.mem_append_right _ z)) e1;exact⟨sl',e2⟩⟩
theorem KeepX.of_same{xs fr:List Addr}{h h':Heap}(k:∀b o,b∉xs→h.get? b=some o→h'.get? b=some o):KeepX xs fr h h':=
 ⟨fun b o n _ e=>k b o n e,fun b o n e=>⟨o.slots,k b o n e⟩⟩
theorem cc_0(o:Obj)(f:Array Value→Array Value):(o.mapFields f).dict=o.dict:=by
 obtain⟨c,d,dt,sl⟩:=o;cases dt <;> rfl
section
variable{M:Model}{A:Around}{E:Value→Shared→Prop}{s:Shared}{env:Env}{outer:List Env}{base:Heap}{L a C:Addr}{dx:Option Addr}{Q:Unit→Shared→Prop}
theorem bq_2{o:Obj}{us:Array Value}{head:Value}{b:Bool}(hfr:A.frames=some (env::outer))(hl:s.heap.FunFrames base (env::outer))(hf:env.frame=some L)
  (he:s.heap.get? a=some o) (hc:o.cls= .ref C) (hx:o.dict=dx) (hd:o.data= .fields us) (hz:1 < us.size) (c2:us[2]? =some .none)
  (h:∀h' T,s.heap.objs.size≤T→KeepX [a] (frs (env::outer)) s.heap h'→Tr h' a C dx (rawInt L) T→Q () {s with heap:=h'}):
  wpAny M A (do let fv←frameOf env;let pl←entryPlaceOf L b;let en←EntryCells.newEntry head fv .none (rawInt L) .none pl;setField (.ref a) 1 en) Q E s:=by
 have nfr:a∉frs (env::outer):=fun hm=>by
  obtain⟨_,u,hu,hn⟩:=hl.mem hm;rw [he] at hu;cases hu;exact hn us hd
 refine wpAny_bind (wpAny_frameOf_fun hfr hl hf fun h1 so=> ?_);refine wpAny_bind (wpAny_entryPlaceOf fun pl hpl=> ?_);unfold EntryCells.newEntry newFields;refine wpAny_bind (wpAny_newObj_type ?_ (hpl.sizeOk5 _ _ _ _ _));have e1:h1.get? a=some o:=(so.2.1 a nfr).trans he;generalize hT:({cls:= .type "traceback",dict:=none,data:= .fields ([head, .ref L, .none,rawInt L, .none] ++ (if pl.isEmpty then List.replicate 6 Value.none else pl)).toArray}:Obj)=oT;have eT:oT.data= .fields ([head, .ref L, .none,rawInt L, .none] ++ (if pl.isEmpty then List.replicate 6 Value.none else pl)).toArray:=by rw [←hT]
 have e2:(h1.push oT).get? a=some o:=Heap.get?_push_of_some oT e1;refine wpAny_setField e2 hd hz ?_;have sz:h1.objs.size=s.heap.objs.size:=so.1;have ltA:a < s.heap.objs.size:=Heap.lt_size he;have neT:h1.objs.size≠a:=fun z=>absurd ltA (by rw [←z,sz];exact Nat.lt_irrefl _);have d3:=Obj.data_mapFields hd (·.setIfInBounds 1 (Value.ref h1.objs.size));refine h _ h1.objs.size (by rw [sz];exact Nat.le_refl _) ⟨fun b u n m e=> ?_,fun b u n e=> ?_⟩ ⟨⟨_,_,Heap.get?_update_self _ e2 (Obj.isFreed_of_fields d3),(Obj.cls_mapFields _ _).trans hc,(cc_0 _ _).trans hx,d3, ?_, ?_⟩,neT,⟨oT,_, ?_,eT, ?_⟩⟩
 ·have nb:a≠b:=fun z=>n (by simp [z]);rw [Heap.get?_update_other _ _ nb];exact Heap.get?_push_of_some oT ((so.2.1 b m).trans e)
 ·have nb:a≠b:=fun z=>n (by simp [z]);obtain⟨sl,es⟩:=so.2.2 b u e;exact⟨sl,by rw [Heap.get?_update_other _ _ nb];exact Heap.get?_push_of_some oT es⟩
 ·simp [hz]
 ·rw [←c2];simp
 ·rw [Heap.get?_update_other _ _ (Ne.symm neT)];exact Heap.get?_push_size h1 (Obj.isFreed_of_fields eT)
 ·first|(simp;done)|(rcases hpl with rfl|⟨_,_,_,_,_,_,_,rfl⟩ <;> simp)
theorem bm_1{o:Obj}{us:Array Value}(hfr:A.frames=some (env::outer))(hl:s.heap.FunFrames base (env::outer))(hf:env.frame=some L)
  (he:s.heap.get? a=some o) (hc:o.cls= .ref C) (hx:o.dict=dx) (hd:o.data= .fields us) (h1:us[1]? =some .none) (c2:us[2]? =some .none)
  (h:∀h' T,s.heap.objs.size≤T→KeepX [a] (frs (env::outer)) s.heap h'→Tr h' a C dx (rawInt L) T→Q () {s with heap:=h'}):wpAny M A (noteFrame (.ref a) env) Q E s:=by
 unfold noteFrame;simp only [hf];refine wpAny_bind (wpAny_field he hd h1 ?_);rw [if_neg (by decide)];exact bq_2 hfr hl hf he hc hx hd (Array.getElem?_eq_some_iff.mp h1).1 c2 h
theorem au_4{T0:Addr}(hfr:A.frames=some (env::outer))(hl:s.heap.FunFrames base (env::outer))(hf:env.frame=some L)(t:Tr s.heap a C dx .none T0)
  (h:∀h' T,s.heap.objs.size≤T→KeepX [a,T0] (frs (env::outer)) s.heap h'→Tr h' a C dx (rawInt L) T→Q () {s with heap:=h'}):wpAny M A (noteFrame (.ref a) env) Q E s:=by
 obtain⟨⟨o,us,he,hc,hx,hd,h1,c2⟩,ne,⟨oT,ws,hT,hdT,h3⟩⟩:=t;unfold noteFrame;simp only [hf];refine wpAny_bind (wpAny_field he hd h1 ?_);rw [if_pos (show(Value.ref T0 != Value.none)=true from by simp)];refine wpAny_bind (wpAny_field hT hdT h3 ?_);rw [if_neg (show¬((Value.none ==rawInt L)=true) from by simp [rawInt])];refine wpAny_bind (wpAny_setField hT hdT (Array.getElem?_eq_some_iff.mp h3).1 ?_);have oth:∀b,b≠T0→(s.heap.update T0 (Obj.mapFields (·.setIfInBounds 3 Value.none))).get? b=s.heap.get? b:=fun b hb=>Heap.get?_update_other _ _ (Ne.symm hb);have fm:∀b u,s.heap.get? b=some u→(∀zs,u.data≠ .fields zs)→b≠T0:=fun b u hb hn q=>by
  subst q;rw [hT] at hb;cases hb;exact hn ws hdT
 refine bq_2 (s:={s with heap:=s.heap.update T0 (Obj.mapFields (·.setIfInBounds 3 Value.none))}) hfr (hl.of_keeps fun b u hb hn=>⟨u,(oth b (fm b u hb hn)).trans hb,rfl⟩) hf ((oth a (Ne.symm ne)).trans he) hc hx hd (Array.getElem?_eq_some_iff.mp h1).1 c2 fun h' T n k tr=>h h' T ?_ ?_ tr
 ·have zz:(s.heap.update T0 (Obj.mapFields (·.setIfInBounds 3 Value.none))).objs.size=s.heap.objs.size:=Heap.size_update _ _ _;rw [←zz];exact n
 ·have na:∀b,b∉ [a,T0]→b∉ [a]:=fun b nb z=>nb (by rw [List.mem_singleton.mp z];exact List.mem_cons_self);have nT:∀b,b∉ [a,T0]→b≠T0:=fun b nb z=>nb (by rw [z];simp);exact⟨fun b u nb m e=>k.same b u (na b nb) m ((oth b (nT b nb)).trans e),fun b u nb e=>k.slot b u (na b nb) ((oth b (nT b nb)).trans e)⟩
theorem s_5{T:Addr}{fl:Value}(t:Tr s.heap a C dx fl T)(h:∀h',(∀b o,b∉ [T]→s.heap.get? b=some o→h'.get? b=some o)→Tr h' a C dx .none T→Q () {s with heap:=h'}):wpAny M A (setFlight (.ref a) none) Q E s:=by
 obtain⟨⟨o,us,he,hc,hx,hd,h1,c2⟩,ne,⟨oT,ws,hT,hdT,h3⟩⟩:=t;have sz3:3 < ws.size:=(Array.getElem?_eq_some_iff.mp h3).1;unfold setFlight;refine wpAny_bind (wpAny_field he hd h1 ?_);rw [if_pos (show(Value.ref T != Value.none)=true from by simp)];refine wpAny_setField hT hdT sz3 (h _ (fun b u n e=> ?_) ⟨⟨o,us, ?_,hc,hx,hd,h1,c2⟩,ne,⟨_,_,Heap.get?_update_self _ hT (Obj.isFreed_of_fields (Obj.data_mapFields hdT _)),Obj.data_mapFields hdT _, ?_⟩⟩)
 ·rw [Heap.get?_update_other _ _ (fun z=>n (by simp [z]))];exact e
 ·rw [Heap.get?_update_other _ _ ne];exact he
 ·simp [sz3]
end
def CXr(P:Program)(w:World):CXT:=fun outer H s E e s'=>∃a C dx T H',e= .ref a∧s'.os=s.os∧AllBare s'.gens∧Un (frs outer) [] H H' s.heap s'.heap∧HOk P w H' s'.heap∧
 Tr s'.heap a C dx .none T∧H' a=none∧H' T=none∧s.heap.objs.size≤a∧s.heap.objs.size≤T∧E (.ref C) dx H'
section
variable{X:Cx}{zd:List (Addr×Obj)}{σ:Sg}{H H':Hp}{s s':Shared}
theorem Inv.settle{ch:List Addr}{h2:Heap}(I:Inv X zd σ H s)(I':Inv X zd σ H' s')(n:∀b∈ch,s.heap.objs.size≤b∧H' b=none)(k:KeepX ch (frs X.stack) s'.heap h2):Inv X zd σ H' {s' with heap:=h2}:=by
 have trk:∀b u,H' b=some u→b∉ch∧b∉frs X.stack:=fun b u e=>⟨fun z=>(by rw [(n b z).2] at e;cases e),fun z=>(by rw [I'.stkFree b z] at e;cases e)⟩;refine I'.step (g':=s'.gens) (d':=s'.drawn) (t':=s'.toks) (ch:=ch) (fun b hb=> ?_) (fun b o h1 h2 h3 e _=>k.same b o h3 (fun z=> ?_) e) (fun b o _ _ h3 e _=>k.slot b o h3 e) (fun _ _ _ _ z=>z) (fun b o h3 e=> ?_) (fun _ _ z=>z) (fun _ _ _ z=>z) (fun b ps z=>⟨#[],by rw [z];simp⟩) (fun m hm=> ?_) (fun b u e=> ?_) I'.bare
 ·have lb:=(n b hb).1;refine⟨.inr (Nat.le_trans I.sz lb),fun z=> ?_,fun x c e z=> ?_,fun p hp z=> ?_⟩
  ·exact absurd (Nat.lt_of_lt_of_le I.lt lb) (by rw [z];exact Nat.lt_irrefl _)
  ·obtain⟨v,hv⟩:=I.cell x c e;exact absurd (Nat.lt_of_lt_of_le hv.lt lb) (by rw [z];exact Nat.lt_irrefl _)
  ·exact absurd (Nat.lt_of_lt_of_le (Heap.lt_size (I.pin p hp).1) lb) (by rw [z];exact Nat.lt_irrefl _)
 ·rcases List.mem_cons.mp (I'.stkSub b z) with z|z
  ·exact h1 z
  ·exact h2 z
 ·obtain⟨sl,q⟩:=k.slot b o h3 e;exact⟨_,q⟩
 ·obtain⟨o,es,ep,ho,r⟩:=hm;have nl:X.env.locals∉ch:=fun z=>absurd (Nat.lt_of_lt_of_le I.lt (n _ z).1) (Nat.lt_irrefl _);obtain⟨sl,q⟩:=k.slot _ o nl ho;exact⟨_,es,ep,q,r⟩
 ·refine(I'.hok b u e).stay (fun c v hc q=> ?_) (fun _ z=>z) fun _ _ z=>z;rcases hc with rfl|hc
  ·exact k.same c v (trk c u e).1 (trk c u e).2 q
  ·exact k.same c v (trk c _ hc).1 (trk c _ hc).2 q
theorem Inv.raised{E:XK}{e:Value}(I:Inv X zd σ H s)(c:CXr X.prog X.w X.stack H s E e s'):∃a C dx T H',e= .ref a∧Inv X zd σ H' s'∧Tr s'.heap a C dx .none T∧H' a=none∧H' T=none∧s.heap.objs.size≤a∧s.heap.objs.size≤T∧E (.ref C) dx H':=by
 obtain⟨a,C,dx,T,H',e1,os,br,un,hok,tr,n1,n2,z1,z2,q⟩:=c;exact⟨a,C,dx,T,H',e1,I.call' (ch:= []) os un hok br (fun b z=>absurd z (by simp)),tr,n1,n2,z1,z2,q⟩
end
section
variable{cm:Bool}{P:Program}{w:World}{K:Frag}{mg:Str→Option Value}{base:Heap}{N:List Str}{qual:Str}{scope:Scope}{f:Addr}{cd:Value}{A:Around}{outer:List Env}{s0:Shared}{H0:Hp}{E E':XK}
theorem bv_8{zd:List (Addr×Obj)}{σ:Sg}{s s':Shared}{e:Value}(I:Inv ({cxOf (CXr P w) P w K mg base N qual scope f cd A outer s0 H0 E with calm:=cm}:Cx) zd σ H s)
  (c:CXr P w ({cxOf (CXr P w) P w K mg base N qual scope f cd A outer s0 H0 E with calm:=cm}:Cx).stack H s E' e s') (i:∀cls dx H',E' cls dx H'→E cls dx H'):({cxOf (CXr P w) P w K mg base N qual scope f cd A outer s0 H0 E with calm:=cm}:Cx).xe e s':=by
 obtain⟨a,C,dx,T,H',rfl,I',tr,n1,n2,z1,z2,q⟩:=Inv.raised I c;show wpAny (model P w) _ (leaving _ _) _ _ s';unfold leaving;refine wpAny_bind (au_4 I'.ok.frames I'.stack rfl tr fun h1 T2 z3 k1 t1=> ?_);refine s_5 t1 fun h2 k2 t2=> ?_;have zT2:H' T2=none:=I'.hok.fresh z3;have J:Inv ({cxOf (CXr P w) P w K mg base N qual scope f cd A outer s0 H0 E with calm:=cm}:Cx) zd σ H' {s' with heap:=h2}:=by
  refine Inv.settle (ch:= [a,T] ++ [T2]) I I' (fun b hb=> ?_) (k1.trans (KeepX.of_same k2));have:b=a∨b=T∨b=T2:=by simpa using hb
  rcases this with rfl|rfl|rfl
  ·exact⟨z1,n1⟩
  ·exact⟨z2,n2⟩
  ·exact⟨Nat.le_trans (Nat.le_trans (Nat.le_refl _) z1) (Nat.le_trans (Nat.le_of_lt (Heap.lt_size tr.ob.choose_spec.choose_spec.1)) z3),zT2⟩
 exact⟨a,C,dx,T2,H',rfl,J.os,J.bare,J.base,J.hok,t2,n1,zT2,Nat.le_trans I.sz z1,Nat.le_trans I'.sz z3,i _ _ _ q⟩
theorem ax_8{zd:List (Addr×Obj)}{σ:Sg}{H H':Hp}{s s':Shared}{a C:Addr}{dx:Option Addr}{o:Obj}{us:Array Value}(I:Inv ({cxOf (CXr P w) P w K mg base N qual scope f cd A outer s0 H0 E with calm:=cm}:Cx) zd σ H s)
  (I':Inv ({cxOf (CXr P w) P w K mg base N qual scope f cd A outer s0 H0 E with calm:=cm}:Cx) zd σ H' s') (he:s'.heap.get? a=some o) (hc:o.cls= .ref C) (hx:o.dict=dx) (hd:o.data= .fields us) (h1:us[1]? =some .none) (c2:us[2]? =some .none) (n1:H' a=none) (z1:s.heap.objs.size≤a) (q:E (.ref C) dx H'):
  ({cxOf (CXr P w) P w K mg base N qual scope f cd A outer s0 H0 E with calm:=cm}:Cx).xe (.ref a) s':=by
 show wpAny (model P w) _ (leaving _ _) _ _ s';unfold leaving;refine wpAny_bind (bm_1 I'.ok.frames I'.stack rfl he hc hx hd h1 c2 fun h1 T2 z3 k1 t1=> ?_);refine s_5 t1 fun h2 k2 t2=> ?_;have zT2:H' T2=none:=I'.hok.fresh z3;have J:Inv ({cxOf (CXr P w) P w K mg base N qual scope f cd A outer s0 H0 E with calm:=cm}:Cx) zd σ H' {s' with heap:=h2}:=by
  refine Inv.settle (ch:= [a] ++ [T2]) I I' (fun b hb=> ?_) (k1.trans (KeepX.of_same k2));have:b=a∨b=T2:=by simpa using hb
  rcases this with rfl|rfl
  ·exact⟨z1,n1⟩
  ·exact⟨Nat.le_trans z1 (Nat.le_trans (Nat.le_of_lt (Heap.lt_size he)) z3),zT2⟩
 exact⟨a,C,dx,T2,H',rfl,J.os,J.bare,J.base,J.hok,t2,n1,zT2,Nat.le_trans I.sz z1,Nat.le_trans I'.sz z3,q⟩
end
section
variable{prog:Program}{w:World}{A:Around}{E:Value→Shared→Prop}{h:Heap}{g:Array GenState}{d:Drawn}{t:Nat}{os:OsState}
variable{nm q:Str}{C N:Addr}{bs bm bmB:List Value}{ay:Bool}{sn:List Str}{sub:List Value}{ab:Bool}{col:Option Bool}{dd:Option Addr}{k0 k1 k2 k3 k5:Option Value}{B newId ag:String}
theorem bv_9(FB:ExcBaseFacts B newId ag bmB)(T:OwnTail h bmB bm){mN:Str→Option Value}{fI:Addr}{oI:Obj}{Q:PySem.Fin→Shared→Prop}
  (hC:h.get? C=some (excClassObj nm q C N bs bm ay sn sub ab col dd k0 k1 k2 k3 k5 newId)) (hn:h.Ns N mN) (hi:mN "__init__" =some (.ref fI)) (ho:h.get? fI=some oI) (hf:oI.cls= .type "function")
  (z:∀h' e,Heap.MadeExcOf h h' e (.ref C) us→h.objs.size≤e→wpAny (model prog w) A (call (.ref fI) (.ref e::us)) (fun r s'=>r= .none∧Q (.done (.ret (.ref e))) s') E ⟨h',g,d,t,os⟩) (hu:us.length≤sizeLine):
  wpAny (model prog w) A (Builtin.«type.__call__» ⟨.ref C::us, []⟩) Q E ⟨h,g,d,t,os⟩:=by
 wp_walk using wpAny_loadPart_at hC,wpAny_madeBy_exc hC
 refine codeAny_call_builtin_code (Code.quiet_builtin _ FB.quiet) (wpAny_check_new_subT FB T hC ?_);refine codeAny_exc_new_subT FB T hC ?_ hu;show wpAny _ _ _ _ _ _;generalize e1:({cls:= .type "tuple",data:= .seq us.toArray}:Obj)=o1;generalize e2:({cls:= .ref C,data:= .fields #[.ref h.objs.size, .none, .none, .none, .bool false, .none]}:Obj)=o2;have up:∀b o,h.get? b=some o→((h.push o1).push o2).get? b=some o:=fun b o e=>Heap.get?_push_of_some _ (Heap.get?_push_of_some _ e);have ge:((h.push o1).push o2).get? (h.objs.size + 1)=some o2:=by
  have:=Heap.get?_push_size (h.push o1) (o:=o2) (by rw [←e2];rfl)
  rwa [Heap.size_push] at this
 have gt:((h.push o1).push o2).get? h.objs.size=some o1:=Heap.get?_push_of_some _ (Heap.get?_push_size h (by rw [←e1];rfl));have hC1:=up _ _ hC;have hn1:((h.push o1).push o2).Ns N mN:=hn.keeps up;have cl:o2.cls= .ref C:=by rw [←e2]
 have hcC:List.contains (Value.ref C::bm) (.ref C)=true:=List.contains_iff_mem.mpr (.head _);unfold isInstance
 repeat (first|(with_reducible refine wpAny_loadPart_at ge ?_;rw [cl])|(with_reducible refine wpAny_isSubtype_exc hC1 ?_;rw [hcC])|wp_step)
 change wpAny _ _ (mroOf (.ref C) >>=fun l=>lookupAlong l _) _ _ _;refine wpAny_bind (wpAny_mroOf_exc hC1 ?_);rw [lookupAlong_cons];refine wpAny_bind (wpAny_classOwn_exc hC1 hn1 ?_);rw [hi];refine wpAny_pure (wpAny_holding (wpAny_bind ?_));unfold bindSpecial;refine wpAny_bind (wpAny_typeOf (T:= "function") ⟨_,up _ _ ho,hf⟩ ?_);rw [if_pos (by decide)];refine wpAny_pure (wpAny_bind (wpAny_mono (z _ (h.objs.size + 1) ⟨up,Heap.get?_none_of_le (Nat.le_succ _),h.objs.size,by rw [e2];exact ge,Heap.get?_none_of_le (Nat.le_refl _),by rw [e1];exact gt⟩ (Nat.le_succ _)) (fun r s' hr=> ?_) fun _ _ x=>x));obtain⟨rfl,hQ⟩:=hr
 wp_walk
 exact hQ
theorem cc_1(FB:ExcBaseFacts B newId ag bmB)(T:OwnTail h bmB bm){mN:Str→Option Value}{fI:Addr}{oI:Obj}{Q:Value→Shared→Prop}
  (hC:h.get? C=some (excClassObj nm q C N bs bm ay sn sub ab col dd k0 k1 k2 k3 k5 newId)) (hn:h.Ns N mN) (hi:mN "__init__" =some (.ref fI)) (ho:h.get? fI=some oI) (hf:oI.cls= .type "function")
  (z:∀h' e,Heap.MadeExcOf h h' e (.ref C) us→h.objs.size≤e→wpAny (model prog w) (A.under (.builtin "type.__call__" ⟨.ref C::us, []⟩)) (call (.ref fI) (.ref e::us)) (fun r s'=>r= .none∧Q (.ref e) s') E ⟨h',g,d,t,os⟩) (hu:us.length≤sizeLine):
  wpAny (model prog w) A (call (.ref C) us) Q E ⟨h,g,d,t,os⟩:=by
 have f1:=tc_lookup;have f2:=tc_bind (.ref C);have isT:Shared.TypeIs ⟨h,g,d,t,os⟩ (.ref C) "type" :=⟨_,hC,rfl⟩;refine wpAny_call (codeAny_of_tree (?_:wpAny _ _ (callAny (.ref C) _) _ _ _))
 wp_walk using wpAny_loadPart_at hC
 refine⟨rfl, ?_⟩;exact codeAny_call_builtin_at (Code.quiet_builtin _ (by decide +kernel)) entry_typeCall (wpAny_check_type_call_sub hC (bv_9 FB T hC hn hi ho hf (fun h' e hm hz=>z h' e hm hz) hu))
theorem au_5{M:Model}{env:Env}{s:Shared}{x:Sem Value}{Q:Flow→Shared→Prop}(hb:bm.contains (.type "BaseException")=true)(hh:A.handled=none)
  (z:wpAny M A x (fun v s1=>∃e t dx,v= .ref e∧s1.heap.get? C=some (excClassObj nm q C N bs bm ay sn sub ab col dd k0 k1 k2 k3 k5 newId)∧
   s1.heap.get? e=some {cls:= .ref C,dict:=dx,data:= .fields #[.ref t, .none, .none, .none, .bool false, .none]}∧E (.ref e) s1) E s):wpAny M A (raiseStmt env (some x) none) Q E s:=by
 have hcB:(Value.ref C::bm).contains (.type "BaseException")=true:=by rw [List.contains_cons,hb,Bool.or_true]
 unfold raiseStmt;refine wpAny_bind (wpAny_mono z (fun v s1 z1=> ?_) fun _ _ y=>y);obtain⟨e,t,dx,rfl,hC,he,hE⟩:=z1;obtain⟨hp,g,d,tk,os⟩:=s1
 repeat (first|with_reducible refine wpAny_loadPart_at he ?_|with_reducible refine wpAny_loadPart_at hC ?_|(with_reducible refine wpAny_isSubtype_exc hC ?_;rw [hcB])|wp_step)
 exact wpAny_raiseNew_none hh hE
end
section
variable{X:Cx}{EX:EXS}{a b c:Expr}{f g h:FE}{pos:Pos}
def eVar(i:Nat):FE:=fun δ=>match δ[i]? with
 |some (some d)=> .ok (.sh d)
 |_=> .no
def eC(d:D):FE:=fun _=> .ok (.sh d)
theorem a_0(i:Nat){x:Str}(hN:X.N[i]? =some x:=by rfl)(hv:Vis X.env.scope x:=by first|exact Or.inl rfl|exact Or.inr (Or.inl rfl)|exact Or.inr (Or.inr rfl))(hd:(x ==("__debug__" :Str))=false:=by decide)
  (hcd:(x ==("__classdict__" :Str))=false:=by decide):ED X EX (.Name x pos) (eVar i):=
 PE.imp (o_7 hN hv hd hcd) fun σ H Q ⟨G,δ,g,s,o⟩=>by
  unfold eVar at o
  split at o
  ·rename_i d e;obtain⟨v,e1,r⟩:=s.get i d e;exact⟨v,e1,WP.use o g r⟩
  ·exact o.elim
theorem u_2{e:Expr}{d:D}(he:PE X e (tC v))(hd:∀G,Has X.K G v d):ED X EX e (eC d):=
 PE.imp he fun σ H Q ⟨G,δ,g,s,o⟩=>WP.use o g (hd G)
theorem a_2{i:Int}{j pos}:ED X EX (.Constant (.int i) j pos) (eC (.int i)):=u_2 cr_1 fun _=> .int i
theorem an_5{b:Bool}{j pos}:ED X EX (.Constant (.bool b) j pos) (eC (.bl b)):=u_2 cy_1 fun _=> .bl b
theorem o_8{j pos}:ED X EX (.Constant .none j pos) (eC .non):=u_2 cr_2 fun _=> .non
theorem k_0{x:Str}{j pos}:ED X EX (.Constant (.str x) j pos) (eC (.str x)):=u_2 cr_3 fun _=> .str x
theorem aa_4{x:Str}{i:Int}{t:Tok}(hg:Gl X x)(hm:X.mg x=some (.int i t))(hd:(x ==("__debug__" :Str))=false:=by decide):ED X EX (.Name x pos) (eC (.int i)):=u_2 (al_6 (v:= .int i) hg hm ⟨t,rfl⟩ hd) fun _=> .int i
theorem bq_3{x:Str}{z:Str}{t:Tok}(hg:Gl X x)(hm:X.mg x=some (.str z t))(hd:(x ==("__debug__" :Str))=false:=by decide):ED X EX (.Name x pos) (eC (.str z)):=u_2 (al_6 (v:= .str z) hg hm ⟨t,rfl⟩ hd) fun _=> .str z
def rD(K:Frag)(r:D→D→R W):R2:=fun x y H Q=>∃(EX:EXT) (G:Hp) (a b:D),Same G H∧Has K G x a∧Has K G y b∧Out K EX G H (r a b) Q
abbrev OpD(X:Cx)(f:Value→Value→Sem Value)(r:D→D→R W):Prop:=OpR X f (rD X.K r)
def eOp(r:D→D→R W)(f g:FE):FE:=fun δ=>(f δ).bind fun a=>(g δ).bind fun b=>r a.d b.d
theorem two{r:D→D→R W}{σ:Sg}{Q:VK}(q:tD K EX (eOp r f g) σ H Q):tOp (rD K r) (tD K EX f) (tD K EX g) σ H Q:=by
 obtain⟨G,δ,g0,s0,o⟩:=q;exact tD.seq g0 s0 o fun w v G1 H1 _ st1 r1 o1=>tD.seq st1.gh (s0.mono st1.gg) o1 fun w2 v2 G2 H2 _ st2 r2 o2=>⟨_,G2,w.d,w2.d,st2.gh,r1.mono st2.gg,r2,o2⟩
theorem a_3{op:Operator}{r:D→D→R W}(ho:OpD X (binaryOp op) r)(ha:ED X EX a f)(hb:ED X EX b g):ED X EX (.BinOp a op b pos) (eOp r f g):=
 PE.imp (cp_3 ho ha hb) fun _ _ _ q=>two q
theorem o_9{op:CmpOp}{r:D→D→R W}(ho:OpD X (compareOp op) r)(ha:ED X EX a f)(hb:ED X EX b g)(hm:behindInMarks op b=false):ED X EX (.Compare a [op] [b] pos) (eOp r f g):=
 PE.imp (cj_1 ho ha hb hm) fun _ _ _ q=>two q
def boolD:D→R Bool
 | .bl b=> .ok b
 |_=> .no
def eTest(f:FE):FT:=fun δ=>(f δ).bind fun w=>boolD w.d
theorem ck_3{σ:Sg}{Q:Bool→Hp→Prop}(q:tDt K EX (eTest f) σ H Q):tD K EX f σ H fun x H'=>∃k,x= .bl k∧Q k H':=by
 obtain⟨G,δ,g0,s0,o⟩:=q;refine⟨G,δ,g0,s0, ?_⟩;unfold eTest at o;cases e:f δ with
 |ok w=>
  rw [e] at o;simp only [R.bind_ok] at o;refine WP.intro fun v G' H' st r=> ?_;revert r o;cases w.d with
  |bl k=>intro o r;cases r;exact⟨k,rfl,o G' H' st⟩
  |_=>intro o _;exact False.elim o
 |ex x=>rw [e] at o;exact o
 |no=>rw [e] at o;exact o
theorem c_5{op:CmpOp}{r:D→D→R W}(ho:OpD X (compareOp op) r)(ha:ED X EX a f)(hb:ED X EX b g)(hm:behindInMarks op b=false):TD X EX (.Compare a [op] [b] pos) (eTest (eOp r f g)):=
 PT.imp (cj_2 ho ha hb hm) fun σ H Q q=>two (ck_3 q)
def t_2(r r':D→D→R W)(f g h:FE):FE:=fun δ=>(f δ).bind fun a=>(g δ).bind fun b=>(r a.d b.d).bind fun z=>(boolD z.d).bind fun k=>
 if k=true then(h δ).bind fun c=>r' b.d c.d else .ok (.sh (.bl false))
theorem da_2{r r':D→D→R W}{σ:Sg}{Q:VK}(q:tD K EX (t_2 r r' f g h) σ H Q):ca_6 (rD K r) (rD K r') (tD K EX f) (tD K EX g) (tD K EX h) σ H Q:=by
 obtain⟨G,δ,g0,s0,o⟩:=q;refine tD.seq g0 s0 o fun w v G1 H1 _ st1 r1 o1=>tD.seq st1.gh (s0.mono st1.gg) o1 fun w2 v2 G2 H2 _ st2 r2 o2=>⟨EX σ,G2,w.d,w2.d,st2.gh,r1.mono st2.gg,r2, ?_⟩;revert o2;cases r w.d w2.d with
 |ok z=>
  intro o2;refine WP.intro fun v3 G3 H3 st3 r3=> ?_;have o2:Out K (EX σ) G2 H2 ((boolD z.d).bind fun k=>if k=true then(h δ).bind fun c=>r' w2.d c.d else .ok (.sh (.bl false))) Q:=o2;revert r3 o2;cases z.d with
  |bl k=>
   intro r3 o2;cases r3;refine⟨k,rfl, ?_⟩;cases k with
   |true=>
    rw [if_pos rfl];have o3:Out K (EX σ) G2 H2 ((h δ).bind fun c=>r' w2.d c.d) Q:=o2;exact tD.seq st3.gh (s0.mono (st1.gg.trans (st2.gg.trans st3.gg))) (o3.mono st3) fun w4 v4 G4 H4 _ st4 r4 o4=>⟨_,G4,w2.d,w4.d,st4.gh,r2.mono (st3.gg.trans st4.gg),r4,o4⟩
   |false=>
    rw [if_neg Bool.false_ne_true];have o3:WP K G2 H2 (.sh (.bl false)) Q:=o2;exact(o3.mono st3).use st3.gh (.bl false)
  |_=>intro _ o2;exact False.elim o2
 |ex x=>exact fun o2=>o2
 |no=>exact fun o2=>o2
theorem be_2{op op':CmpOp}{r r':D→D→R W}(ho:OpD X (compareOp op) r)(ho':OpD X (compareOp op') r')(ha:ED X EX a f)(hb:ED X EX b g)(hc:ED X EX c h)
  (hm:lastMarks [op,op'] [b,c]=false:=by with_unfolding_all rfl):ED X EX (.Compare a [op,op'] [b,c] pos) (t_2 r r' f g h):=
 PE.imp (ca_7 ho ho' ha hb hc hm) fun _ _ _ q=>da_2 q
abbrev TW(X:Cx)(EX:EXS)(e:Expr)(f:FT):Prop:=PW X e (tDt X.K EX f)
variable{p q:FT}{x_3:List Expr}
def tAndF(p q:FT):FT:=fun δ=>(p δ).bind fun b=>if b=true then q δ else .ok false
def tOrF(p q:FT):FT:=fun δ=>(p δ).bind fun b=>if b=true then .ok true else q δ
def tNotF(p:FT):FT:=fun δ=>(p δ).bind fun b=> .ok (!b)
theorem ck_4(ha:TD X EX a p):TW X EX (.BoolOp .And [a] pos) p:=ci_8 ha
theorem ac_2(ha:TD X EX a p):TW X EX (.BoolOp .Or [a] pos) p:=cr_4 ha
theorem tDt.two{σ:Sg}{Q:Bool→Hp→Prop}{k:Bool→DE→R Bool}{P:Bool→Hp→Prop}(h:tDt K EX (fun δ=>(p δ).bind fun b=>k b δ) σ H Q)
  (i:∀b H',tDt K EX (k b) σ H' Q→P b H'):tDt K EX p σ H P:=by
 obtain⟨G,δ,g0,s0,o⟩:=h;refine⟨G,δ,g0,s0, ?_⟩;cases e:p δ with
 |ok b=>
  simp only [e,R.bind_ok] at o;refine fun G' H' st=>i b H' ⟨G',δ,st.gh,s0.mono st.gg, ?_⟩;cases e2:k b δ with
  |ok c=>rw [e2] at o;exact fun G2 H2 st2=>o G2 H2 (st.trans st2)
  |ex x=>rw [e2] at o;exact(EX σ).mono _ _ _ _ _ st o
  |no=>rw [e2] at o;exact o
 |ex x=>simp only [e,R.bind_ex] at o;exact o
 |no=>simp only [e,R.bind_no] at o
theorem tDt.now{σ:Sg}{Q:Bool→Hp→Prop}{c:Bool}(h:tDt K EX (fun _=> .ok c) σ H Q):Q c H:=by
 obtain⟨G,δ,g0,s0,o⟩:=h;exact o G H (Step.refl g0)
theorem cu_1(ha:TD X EX a p)(hb:TW X EX (.BoolOp .And (b::x_3) pos) q):TW X EX (.BoolOp .And (a::b::x_3) pos) (tAndF p q):=
 PW.imp (cr_5 ha hb) fun σ H Q h=>tDt.two (k:=fun b δ=>if b=true then q δ else .ok false) h fun b H' h'=>by
  cases b with
  |true=>rw [if_pos rfl];exact h'
  |false=>rw [if_neg Bool.false_ne_true];exact tDt.now h'
theorem aj_4(ha:TD X EX a p)(hb:TW X EX (.BoolOp .Or (b::x_3) pos) q):TW X EX (.BoolOp .Or (a::b::x_3) pos) (tOrF p q):=
 PW.imp (cy_2 ha hb) fun σ H Q h=>tDt.two (k:=fun b δ=>if b=true then .ok true else q δ) h fun b H' h'=>by
  cases b with
  |true=>rw [if_pos rfl];exact tDt.now h'
  |false=>rw [if_neg Bool.false_ne_true];exact h'
theorem td_w{e:Expr}(h:TW X EX e p):TD X EX e p:=h.pt
theorem q_0(ha:TD X EX a p):TD X EX (.UnaryOp .Not a pos) (tNotF p):=
 PT.imp (cr_6 ha) fun σ H Q h=>tDt.two (k:=fun b _=> .ok (!b)) h fun b H' h'=>tDt.now h'
def eAnd(f g:FE):FE:=fun δ=>(f δ).bind fun a=>(boolD a.d).bind fun k=>if k=true then g δ else .ok (.sh (.bl false))
def eOr(f g:FE):FE:=fun δ=>(f δ).bind fun a=>(boolD a.d).bind fun k=>if k=true then .ok (.sh (.bl true)) else g δ
def eNot(f:FE):FE:=fun δ=>(f δ).bind fun a=>(boolD a.d).bind fun k=> .ok (.sh (.bl (!k)))
theorem ax_9{op}(h:ED X EX a f):ED X EX (.BoolOp op [a] pos) f:=cr_7 h
theorem tD.boolThen{σ:Sg}{Q:VK}{k:Bool→DE→R W}{P:Bool→Hp→Prop}(h:tD K EX (fun δ=>(f δ).bind fun a=>(boolD a.d).bind fun c=>k c δ) σ H Q)
  (i:∀c H',tD K EX (k c) σ H' Q→P c H'):tD K EX f σ H fun x H'=>∃c,x= .bl c∧P c H':=by
 obtain⟨G,δ,g0,s0,o⟩:=h;refine tD.seq g0 s0 o fun w v G1 H1 _ st1 r1 o1=> ?_;revert r1 o1;cases w.d with
 |bl c=>intro r1 o1;cases r1;exact⟨c,rfl,i c H1 ⟨G1,δ,st1.gh,s0.mono st1.gg,o1⟩⟩
 |_=>intro _ o1;exact False.elim o1
theorem tD.now{σ:Sg}{Q:VK}{d:D}(h:tD K EX (fun _=> .ok (.sh d)) σ H Q)(r:∀G,Has K G v d):Q v H:=by
 obtain⟨G,δ,g0,s0,o⟩:=h;exact WP.use o g0 (r G)
theorem an_6(ha:ED X EX a f)(hb:ED X EX (.BoolOp .And (b::x_3) pos) g):ED X EX (.BoolOp .And (a::b::x_3) pos) (eAnd f g):=
 PE.imp (cr_8 ha hb) fun σ H Q h=>tD.boolThen (k:=fun k δ=>if k=true then g δ else .ok (.sh (.bl false))) h fun c H' h'=>by
  cases c with
  |true=>rw [if_pos rfl];exact h'
  |false=>rw [if_neg Bool.false_ne_true];exact tD.now h' fun _=> .bl false
theorem cu_2(ha:ED X EX a f):ED X EX (.UnaryOp .Not a pos) (eNot f):=
 PE.imp (cr_9 ha) fun σ H Q h=>tD.boolThen (k:=fun k _=> .ok (.sh (.bl (!k)))) h fun c H' h'=>tD.now h' fun _=> .bl (!c)
def eIf(p:FT)(f g:FE):FE:=fun δ=>(p δ).bind fun k=>if k=true then f δ else g δ
def truthD:D→R Bool
 | .non=> .ok false
 | .bl b=> .ok b
 | .int i=> .ok (i != 0)
 | .str x=>if x.length≤16777216 then .ok ((x.length:Int) != 0) else .no
 | .lst ds=> .ok (!ds.isEmpty)
 | .tup ds=> .ok (!ds.isEmpty)
 |_=> .no
def eTruth(f:FE):FT:=fun δ=>(f δ).bind fun w=>truthD w.d
theorem be_4{G:Hp}{ds:List D}(r:HasL K G vs ds):(!ds.isEmpty)= !vs.isEmpty:=by cases r <;> rfl
theorem cu_3{G H:Hp}{d:D}{k:Bool}(g:Same G H)(r:Has K G v d)(e:truthD d= .ok k):TruV K v H k:=by
 cases r with
 |non=>cases e;rfl
 |bl b=>cases e;rfl
 |int i=>cases e;rfl
 |str x=>
  have e:(if x.length≤16777216 then R.ok ((x.length:Int) != 0) else .no)= .ok k:=e
  split at e
  ·rename_i hz;cases e;exact⟨by rw [sizeLine_eq];exact hz,rfl⟩
  ·cases e
 |lst h r=>cases e;exact .inl ⟨_,g.seq h,be_4 r⟩
 |tup h r=>cases e;exact .inr (.inl ⟨_,Same.tupS g h,be_4 r⟩)
 |exn0 _ _=>cases e
 |exn1 _ _ _ _ _=>cases e
 |dic _ _ _=>cases e
 |obj _ _ _ _=>cases e
theorem d_5(ha:ED X EX a f)(he:∀whole,isTrue a X.env whole=(do let v←whole;standAt a.pos;holding [v] (truthy v)):=by intro _;rfl):TD X EX a (eTruth f):=
 PT.imp (ca_8 ha he) fun σ H Q ⟨G,δ,g0,s0,o⟩=>by
  refine⟨G,δ,g0,s0, ?_⟩;unfold eTruth at o;cases e:f δ with
  |ok w=>
   rw [e] at o;simp only [R.bind_ok] at o;refine WP.intro fun v G' H' st r=> ?_;cases e2:truthD w.d with
   |ok k=>rw [e2] at o;exact⟨k,cu_3 st.gh r e2,o G' H' st⟩
   |ex x=>rw [e2] at o;exfalso;revert e2;cases w.d <;> simp only [truthD] <;> intro e2 <;> first|cases e2|(split at e2 <;> cases e2)
   |no=>rw [e2] at o;exact o.elim
  |ex x=>rw [e] at o;exact o
  |no=>rw [e] at o;exact o
variable{e:Expr}{es:List Expr}{fa:FA}
def aNil:FA:=fun _=> .ok []
def aCons(f:FE)(fa:FA):FA:=fun δ=>(f δ).bind fun w=>(fa δ).bind fun ds=> .ok (w.d::ds)
theorem a_4:AD X EX [] aNil:=PA.imp t_1 fun σ H Q ⟨G,δ,g0,s0,o⟩=>o [] G H (Step.refl g0) .nil
theorem a_1(ha:ED X EX e f)(hr:AD X EX es fa)(hs:starEach (e::es) X.env=(false,eval e X.env)::starEach es X.env:=by rfl):AD X EX (e::es) (aCons f fa):=
 PA.imp (i_7 ha hr hs) fun σ H Q ⟨G,δ,g0,s0,o⟩=>by
  refine⟨G,δ,g0,s0, ?_⟩;unfold aCons at o;cases e1:f δ with
  |ok w=>
   rw [e1] at o;simp only [R.bind_ok] at o;refine WP.intro fun v G' H' st r=>⟨G',δ,st.gh,s0.mono st.gg, ?_⟩;cases e2:fa δ with
   |ok ds=>rw [e2] at o;exact fun vs G2 H2 st2 r2=>o (v::vs) G2 H2 (st.trans st2) (.cons (r.mono st2.gg) r2)
   |ex x=>rw [e2] at o;exact(EX σ).mono _ _ _ _ _ st o
   |no=>rw [e2] at o;exact o
  |ex x=>rw [e1] at o;exact o
  |no=>rw [e1] at o;exact o
def eTup(fa:FA):FE:=fun δ=>(fa δ).bind fun ds=>if ds.length≤16777216 then .ok (.sh (.tup ds)) else .no
def eLst(fa:FA):FE:=fun δ=>(fa δ).bind fun ds=>if ds.length≤16777216 then .ok (.ow (.lst ds)) else .no
theorem cc_2{x1}(ha:AD X EX es fa):ED X EX (.Tuple es x1 pos) (eTup fa):=
 PE.imp (cb_1 ha) fun σ H Q ⟨G,δ,g0,s0,o⟩=>tDa.seq g0 s0 o fun ds vs G' H' _ st r o'=>by
  split at o'
  ·rename_i hz;refine⟨by rw [r.length,sizeLine_eq];exact hz,fun p hp=>o' (.ref p) _ _ (Step.new st.gh hp _) (.tup (SqT.of b_4) (r.mono (n_6 (st.gh.free hp) _)))⟩
  ·exact o'.elim
theorem c_3(ha:AD X EX es fa):ED X EX (.List es pos) (eLst fa):=
 PE.imp (cb_2 ha) fun σ H Q ⟨G,δ,g0,s0,o⟩=>tDa.seq g0 s0 o fun ds vs G' H' _ st r o'=>by
  split at o'
  ·rename_i hz;refine⟨by rw [r.length,sizeLine_eq];exact hz,fun p hp=>v_7 o' st.gh r p hp⟩
  ·exact o'.elim
def rDc(K:Frag)(fn:List D→R W):List V→Hp→VK→Prop:=fun vs H Q=>∃(EX:EXT) (G:Hp) (ds:List D),Same G H∧HasL K G vs ds∧Out K EX G H (fn ds) Q
abbrev ae_2(X:Cx)(v:Value)(fn:List D→R W):Prop:=w_8 X v (rDc X.K fn)
def eCall(fn:List D→R W)(fa:FA):FE:=fun δ=>(fa δ).bind fn
theorem bq_4{fn:List D→R W}{σ:Sg}{Q:VK}(q:tD K EX (eCall fn fa) σ H Q):tCB (rDc K fn) (tDa K EX fa) σ H Q:=by
 obtain⟨G,δ,g0,s0,o⟩:=q;exact tDa.seq g0 s0 o fun ds vs G' H' _ st r o'=>⟨_,G',ds,st.gh,r,o'⟩
variable{x:Str}{pp:Pos}{id T:String}{fn:List D→R W}
theorem b_7(hc:ae_2 X (.builtin id) fn)(hg:Gl X x)(hm:X.mg x=none)(hv:bootBuiltins x=some (.builtin id))(ha:AD X EX (e::es) fa)(hn:x≠ "__name__" :=by decide)(hdb:(x ==("__debug__" :Str))=false:=by decide)
  (he:starEach (e::es) X.env=(false,eval e X.env)::starEach es X.env:=by rfl) (hpl:(backTo pos (starEach es X.env)).any (·.1)=false:=by rfl):ED X EX (.Call (.Name x pp) (e::es) [] pos) (eCall fn fa):=
 PE.imp (x_5 hc hg hm hv ha hn hdb he hpl) fun _ _ _ q=>bq_4 q
theorem aa_5(hc:ae_2 X (.type T) fn)(hg:Gl X x)(hm:X.mg x=none)(hv:bootBuiltins x=some (.type T))(ha:AD X EX (e::es) fa)(hn:x≠ "__name__" :=by decide)(hdb:(x ==("__debug__" :Str))=false:=by decide)
  (he:starEach (e::es) X.env=(false,eval e X.env)::starEach es X.env:=by rfl) (hpl:(backTo pos (starEach es X.env)).any (·.1)=false:=by rfl):ED X EX (.Call (.Name x pp) (e::es) [] pos) (eCall fn fa):=
 PE.imp (bv_3 hc hg hm hv ha hn hdb he hpl) fun _ _ _ q=>bq_4 q
def ixD:D→D→R W
 | .lst ds, .int i=>match atI ds i with|some d=> .ok (.sh d)|none=> .no
 | .tup ds, .int i=>match atI ds i with|some d=> .ok (.sh d)|none=> .no
 | .str z, .int i=>if z.length≤16777216 then(match atI z.cps.toList i with|some c=> .ok (.sh (.str ⟨#[c]⟩))|none=> .no) else .no
 |_,_=> .no
theorem HasL.atI{G:Hp}{ds:List D}{i:Int}{d:D}(r:HasL K G vs ds)(h:L2.atI ds i=some d):∃v,L2.atI vs i=some v∧Has K G v d:=by
 unfold L2.atI at h⊢;rw [r.length];cases e:ixN ds.length i with
 |none=>rw [e] at h;cases h
 |some j=>rw [e] at h;exact r.get h
theorem ix_d:IxR X (rD X.K ixD):=by
 intro value slice zd s σ H x y v u Q I rx ry h hs;obtain⟨EX,G,a,b,g,ra,rb,o⟩:=h;cases rb with
 |int i=>
  cases ra with
  |lst h r=>
   simp only [ixD] at o
   split at o
   ·rename_i d e;obtain⟨v,e1,r1⟩:=HasL.atI r e;exact ax_1 value slice zd s σ H _ _ _ _ Q I rx ry ⟨_,_,i,v,rfl,rfl,g.seq h,e1,WP.use o g r1⟩ hs
   ·exact o.elim
  |tup h r=>
   simp only [ixD] at o
   split at o
   ·rename_i d e;obtain⟨v,e1,r1⟩:=HasL.atI r e;exact ct_4 value slice zd s σ H _ _ _ _ Q I rx ry ⟨_,_,i,v,rfl,rfl,Same.tupS g h,e1,WP.use o g r1⟩ hs
   ·exact o.elim
  |str z=>
   simp only [ixD] at o
   split at o
   ·rename_i hz
    split at o
    ·rename_i c e;exact ct_5 value slice zd s σ H _ _ _ _ Q I rx ry ⟨z,i,c,rfl,rfl,by rw [sizeLine_eq];exact hz,e,WP.use o g (.str _)⟩ hs
    ·exact o.elim
   ·exact o.elim
  |_=>exact False.elim o
 |_=>cases ra <;> exact False.elim o
theorem o_5(ha:ED X EX a f)(hb:ED X EX b g)(hs:bp_9 b:=by intro _ _;rfl):ED X EX (.Subscript a b pos) (eOp ixD f g):=
 PE.imp (da_1 ix_d ha hb hs) fun _ _ _ q=>two q
end
end L3
namespace L2
open PySem PySem.Spec PyProof.Rows
section
variable{κ:Type} [DecidableEq κ]
def x_7(kvs:List (κ×V))(k:κ):Option V:=(kvs.find? fun kv=>decide (kv.1=k)).map (·.2)
def putK(kvs:List (κ×V))(k:κ)(v:V):List (κ×V):=
 if(kvs.any fun kv=>decide (kv.1=k))=true then kvs.map (fun kv=>if kv.1=k then(kv.1,v) else kv) else kvs ++ [(k,v)]
theorem ae_3{p:κ×V}{r:List (κ×V)}{k:κ}(e:p.1=k):x_7 (p::r) k=some p.2:=by simp [x_7,List.find?_cons,e]
theorem ae_4{p:κ×V}{r:List (κ×V)}{k:κ}(e:¬p.1=k):x_7 (p::r) k=x_7 r k:=by simp [x_7,List.find?_cons,e]
theorem be_5(k:κ):∀kvs:List (κ×V),(kvs.any fun kv=>decide (kv.1=k))=(x_7 kvs k).isSome
 | []=>rfl
 |p::r=>by
  rw [List.any_cons]
  by_cases e:p.1=k
  ·simp only [ae_3 e,decide_eq_true e,Bool.true_or,Option.isSome_some]
  ·rw [ae_4 e,decide_eq_false e,Bool.false_or];exact be_5 k r
theorem aj_5(kvs:List (κ×V))(k:κ)(v:V):(putK kvs k v).length≤kvs.length + 1:=by
 unfold putK
 split
 ·rw [List.length_map];omega
 ·rw [List.length_append,List.length_cons,List.length_nil];omega
theorem RelO.isSome_eq{o:Option V}{u:Option Value}(r:RelO o u):o.isSome=u.isSome:=by
 cases o with
 |none=>cases u with
  |none=>rfl
  |some _=>exact(show False from r).elim
 |some _=>cases u with
  |none=>exact(show False from r).elim
  |some _=>rfl
theorem RelO.getD{o:Option V}{u:Option Value}{d:V}{d':Value}(r:RelO o u)(rd:RelV d d'):RelV (o.getD d) (u.getD d'):=by
 cases o with
 |none=>cases u with
  |none=>exact rd
  |some _=>exact(show False from r).elim
 |some _=>cases u with
  |none=>exact(show False from r).elim
  |some _=>exact r
theorem KV.val{kvs:List (κ×V)}{vs:List (κ×Value)}(r:KV kvs vs)(k:κ):RelO (x_7 kvs k) (valueAt vs k):=by
 unfold KV at r
 induction r with
 |nil=>exact True.intro
 | @cons p q ps qs h t ih=>
  obtain⟨h1,h2⟩:=h
  by_cases e:p.1=k
  ·have e':q.1=k:=h1.symm.trans e;have b:valueAt (q::qs) k=some q.2:=by simp [valueAt,List.find?_cons,e']
   rw [ae_3 e,b];exact h2
  ·have e':¬q.1=k:=fun z=>e (h1.trans z);have b:valueAt (q::qs) k=valueAt qs k:=by simp [valueAt,List.find?_cons,e']
   rw [ae_4 e,b];exact ih
theorem KV.any{kvs:List (κ×V)}{vs:List (κ×Value)}(r:KV kvs vs)(k:κ):(kvs.any fun kv=>decide (kv.1=k))=vs.any fun kv=>decide (kv.1=k):=by
 unfold KV at r
 induction r with
 |nil=>rfl
 |cons h t ih=>rw [List.any_cons,List.any_cons,ih,h.1]
theorem KV.repl{kvs:List (κ×V)}{vs:List (κ×Value)}(r:KV kvs vs)(k:κ){y:V}{u:Value}(ry:RelV y u):
  KV (kvs.map fun kv=>if kv.1=k then(kv.1,y) else kv) (vs.map fun kv=>if kv.1=k then(kv.1,u) else kv):=by
 unfold KV at r⊢
 induction r with
 |nil=>exact .nil
 | @cons p q ps qs h t ih=>
  rw [List.map_cons,List.map_cons];refine .cons ?_ ih;obtain⟨h1,h2⟩:=h
  by_cases e:p.1=k
  ·rw [if_pos e,if_pos (h1.symm.trans e)];exact⟨h1,ry⟩
  ·rw [if_neg e,if_neg (fun z=>e (h1.trans z))];exact⟨h1,h2⟩
theorem KV.put{kvs:List (κ×V)}{vs:List (κ×Value)}(r:KV kvs vs)(k:κ){y:V}{u:Value}(ry:RelV y u):KV (putK kvs k y) (stored vs k u):=by
 unfold putK stored;rw [r.any k]
 by_cases e:(vs.any fun kv=>decide (kv.1=k))=true
 ·rw [if_pos e,if_pos e];exact r.repl k ry
 ·rw [if_neg e,if_neg e];exact Paired.snoc r ⟨rfl,ry⟩
theorem KV.keys{kvs:List (κ×V)}{vs:List (κ×Value)}(r:KV kvs vs):kvs.map (·.1)=vs.map (·.1):=by
 unfold KV at r
 induction r with
 |nil=>rfl
 |cons h t ih=>rw [List.map_cons,List.map_cons,ih,h.1]
theorem KV.length{kvs:List (κ×V)}{vs:List (κ×Value)}(r:KV kvs vs):kvs.length=vs.length:=Paired.length r
end
theorem cc_3{w:World}{k:Key}{u:Value}(r:RelV (kV k) u):(j_8 P w).is k u=true:=by
 cases k with
 |inl i=>obtain⟨t,e⟩:=(show∃t,u=Value.int i t from r);subst e;exact bd_5 P w i t
 |inr x=>obtain⟨t,e⟩:=(show∃t,u=Value.str x t from r);subst e;exact bd_6 P w x t
theorem au_6{w:World}:∀{ks:List Key} {us:List Value},Vals (ks.map kV) us→ItemsAre (j_8 P w) ks us
 | [],_,r=>by rw [List.map_nil] at r;cases r;exact .nil
 |k::ks,_,r=>by
  rw [List.map_cons] at r;cases r with
  |cons h t=>exact .cons (cc_3 h) (au_6 t)
abbrev KT(H:Hp):List (List Key×V)→List (List Key×Addr×Value)→Prop:=Paired fun p q=>p.1=q.1∧H q.2.1=some (.tup (p.1.map kV))∧RelV p.2 q.2.2
theorem KT.val{kvs:List (List Key×V)}{xs:List (List Key×Addr×Value)}(r:KT H kvs xs)(k:List Key):RelO (x_7 kvs k) ((atKey xs k).map (·.2)):=by
 induction r with
 |nil=>exact True.intro
 | @cons p q ps qs h t ih=>
  obtain⟨h1,_,h2⟩:=h
  by_cases e:p.1=k
  ·have e':q.1=k:=h1.symm.trans e;have b:atKey (q::qs) k=some q.2:=by simp [atKey,List.find?_cons,e']
   rw [ae_3 e,b];exact h2
  ·have e':¬q.1=k:=fun z=>e (h1.trans z);have b:atKey (q::qs) k=atKey qs k:=by simp [atKey,List.find?_cons,e']
   rw [ae_4 e,b];exact ih
theorem KT.repl{kvs:List (List Key×V)}{xs:List (List Key×Addr×Value)}(r:KT H kvs xs)(k:List Key){y:V}{u:Value}(ry:RelV y u):
  KT H (kvs.map fun kv=>if kv.1=k then(kv.1,y) else kv) (xs.map (putAt k u)):=by
 induction r with
 |nil=>exact .nil
 | @cons p q ps qs h t ih=>
  rw [List.map_cons,List.map_cons];refine .cons ?_ ih;obtain⟨h1,h2,h3⟩:=h;unfold putAt
  by_cases e:p.1=k
  ·rw [if_pos e,if_pos (h1.symm.trans e)];exact⟨h1,h2,ry⟩
  ·rw [if_neg e,if_neg (fun z=>e (h1.trans z))];exact⟨h1,h2,h3⟩
theorem KT.put{kvs:List (List Key×V)}{xs:List (List Key×Addr×Value)}(r:KT H kvs xs)(k:List Key){b:Addr}{y:V}{u:Value}(hb:H b=some (.tup (k.map kV)))(ry:RelV y u):
  KT H (putK kvs k y) (storedH xs k b u):=by
 have e:(kvs.any fun kv=>decide (kv.1=k))=(atKey xs k).isSome:=by
  rw [be_5,(r.val k).isSome_eq,Option.isSome_map]
 unfold putK storedH;rw [e]
 by_cases q:(atKey xs k).isSome=true
 ·rw [if_pos q,if_pos q];exact r.repl k ry
 ·rw [if_neg q,if_neg q];exact Paired.snoc r ⟨rfl,hb,ry⟩
theorem KT.keeps{H H':Hp}{kvs:List (List Key×V)}{xs:List (List Key×Addr×Value)}(r:KT H kvs xs)(ht:∀b ys,H b=some (.tup ys)→H' b=some (.tup ys)):KT H' kvs xs:=
 Paired.mapP r fun _ _ z=>⟨z.1,ht _ _ z.2.1,z.2.2⟩
section
variable{P:Program}{w:World}{H:Hp}{h:Heap}{a:Addr}
theorem cp_6{u:HO}(ok:HOk P w H h)(e:Rd H a u):ObjOk P w H h a u:=e.ok ok
theorem cp_7{kvs:List (Key×V)}(ok:HOk P w H h)(e:Rd H a (.dK kvs)):kvs.length≤sizeLine∧(a ==sysModules)=false∧∃vs,KV kvs vs∧h.DictOf (j_8 P w) a vs:=
 show ObjOk P w H h a (.dK kvs) from cp_6 ok e
theorem da_3{kvs:List (Key×V)}(ok:HOk P w H h)(e:H a=some (.dK kvs)):kvs.length≤sizeLine∧(a ==sysModules)=false∧∃vs,KV kvs vs∧h.DictOf (j_8 P w) a vs:=cp_7 ok (.inl e)
theorem bm_2{ks:List Key}(ok:HOk P w H h)(e:H a=some (.tup (ks.map kV))):(tupleKind (j_8 P w)).is h ks a:=by
 obtain⟨_,its,r,o,h1,h2,n,h3⟩:=(show ObjOk P w H h a (.tup (ks.map kV)) from ok a _ e);exact⟨o,its.toArray,n,h1,h2,h3,by simpa using au_6 r⟩
theorem cp_8{kvs:List (List Key×V)}(ok:HOk P w H h)(e:Rd H a (.dT kvs)):kvs.length≤sizeLine∧(a ==sysModules)=false∧
  ∃xs,KT H kvs xs∧h.DictOfH (tupleKind (j_8 P w)) a xs:=by
 obtain⟨z,y,xs,r,o,es,ep,h1,h2,h3,h4,h5⟩:=(show ObjOk P w H h a (.dT kvs) from cp_6 ok e);refine⟨z,y,xs,r,o,es,ep,h1,h2,h3,h4,fun x hx=> ?_,h5⟩;have all:∀{l:List (List Key×V)} {m:List (List Key×Addr×Value)},KT H l m→∀x∈m,(tupleKind (j_8 P w)).is h x.1 x.2.1:=by
  intro l m q
  induction q with
  |nil=>intro x hx;exact nomatch hx
  | @cons p q ps qs hq t ih=>
   intro x hx;rcases List.mem_cons.mp hx with e|hx
   ·subst e;exact bm_2 ok (by rw [←hq.1];exact hq.2.1)
   ·exact ih x hx
 exact all r x hx
theorem da_4{kvs:List (List Key×V)}(ok:HOk P w H h)(e:H a=some (.dT kvs)):kvs.length≤sizeLine∧(a ==sysModules)=false∧
  ∃xs,KT H kvs xs∧h.DictOfH (tupleKind (j_8 P w)) a xs:=cp_8 ok (.inl e)
end
def DGet(H:Hp)(a:Addr)(y:V)(r:Option V):Prop:=
 (∃kvs k,Rd H a (.dK kvs)∧y=kV k∧r=x_7 kvs k)∨∃kvs k b,Rd H a (.dT kvs)∧y= .ref b∧H b=some (.tup (k.map kV))∧r=x_7 kvs k
def DPut(H:Hp)(a:Addr)(y v:V)(H':Hp):Prop:=
 (∃kvs k,H a=some (.dK kvs)∧y=kV k∧kvs.length < sizeLine∧H'=upd H a (.dK (putK kvs k v)))∨
 ∃kvs k b,H a=some (.dT kvs)∧y= .ref b∧H b=some (.tup (k.map kV))∧kvs.length < sizeLine∧H'=upd H a (.dT (putK kvs k v))
theorem DGet.t{a b:Addr}{kvs:List (List Key×V)}{k:List Key}(e:H a=some (.dT kvs))(eb:H b=some (.tup (k.map kV))):DGet H a (.ref b) (x_7 kvs k):= .inr ⟨kvs,k,b, .inl e,rfl,eb,rfl⟩
theorem DPut.k{a:Addr}{kvs:List (Key×V)}{k:Key}(e:H a=some (.dK kvs))(hl:kvs.length < sizeLine):DPut H a (kV k) v (upd H a (.dK (putK kvs k v))):= .inl ⟨kvs,k,e,rfl,hl,rfl⟩
theorem DPut.t{a b:Addr}{kvs:List (List Key×V)}{k:List Key}(e:H a=some (.dT kvs))(eb:H b=some (.tup (k.map kV)))(hl:kvs.length < sizeLine):
  DPut H a (.ref b) v (upd H a (.dT (putK kvs k v))):= .inr ⟨kvs,k,b,e,rfl,eb,hl,rfl⟩
section
variable{X:Cx}{zd:List (Addr×Obj)}{σ:St}{H:Hp}{s:Shared}{a:Addr}{y v:V}{u r:Value}{o:Option V}{A:Around}{E:Value→Shared→Prop}
theorem Inv.big(I:Inv X zd σ H s):sysModules < s.heap.objs.size:=by
 have h:mainGlobals < s.heap.objs.size:=(I.mod.glob.keeps I.bk).lt;exact Nat.lt_trans (by decide) h
theorem d_in{Q:Value→Shared→Prop}(hu:A.units + 1 < cLine)(I:Inv X zd σ H s)(g:DGet H a y o)(ry:RelV y u)(h:∀s',Inv X zd σ H s'→Q (.bool o.isSome) s'):
  wpAny (model X.prog X.w) A (compareOp .In u (.ref a)) Q E s:=by
 rcases g with⟨kvs,k,e,ey,l⟩|⟨kvs,k,b,e,ey,eb,l⟩
 ·subst ey;obtain⟨z,hd,vs,rel,dd⟩:=cp_7 I.hok e;refine wpAny_in_of (cc_3 ry) hd dd.mapOf ?_;rw [←(rel.val k).isSome_eq,←l];exact h _ (I.tok _)
 ·subst ey;cases(show u=Value.ref b from ry);obtain⟨z,hd,xs,rel,dd⟩:=cp_8 I.hok e;refine wpAny_in_heap (tupleKind_room_in1 hu) (bm_2 I.hok eb) hd dd ?_;have q:=(rel.val k).isSome_eq;rw [Option.isSome_map] at q;rw [←q,←l];exact h _ (I.tok _)
theorem bq_5{h':Heap}{t':Nat}{ob:HO}(I:Inv X zd σ H s)(mu:Mut (H a))(hs:Heap.SameBut a s.heap h')(he:∃q,h'.get? a=some q)(new:ObjOk X.prog X.w (upd H a ob) h' a ob):
  Inv X zd σ (upd H a ob) {s with heap:=h',toks:=t'}:=
 I.write (x:=a) (e:=a) mu (.inl rfl) (fun b q hb z=>(hs.2 b hb).trans z) he new
theorem cu_4{w:World}{H':Hp}{h':Heap}{kvs:List (Key×V)}{vs:List (Key×Value)}(z:kvs.length≤sizeLine)(hd:(a ==sysModules)=false)(rel:KV kvs vs)(dd:h'.DictOf (j_8 P w) a vs):
  ObjOk P w H' h' a (.dK kvs):=⟨z,hd,vs,rel,dd⟩
theorem bw_0{H':Hp}{Q:Unit→Shared→Prop}(hu:A.units + 1 < cLine)(I:Inv X zd σ H s)(g:DPut H a y v H')(ry:RelV y u)(rv:RelV v r)(h:∀s',Inv X zd σ H' s'→Q () s'):
  wpAny (model X.prog X.w) A (setItem (.ref a) u r) Q E s:=by
 rcases g with⟨kvs,k,e,ey,l,eH⟩|⟨kvs,k,b,e,ey,eb,l,eH⟩
 ·subst ey eH;obtain⟨z,hd,vs,rel,dd⟩:=da_3 I.hok e;have hz:vs.length≤sizeLine:=by rw [←rel.length];exact z
  have hl:(putK kvs k v).length≤sizeLine:=by have:=aj_5 kvs k v;omega
  refine wpAny_setItem_pairs (hsz:=hz) (cc_3 ry) dd fun h' dd' hs=>h _ ?_;have he:∃q,h'.get? a=some q:=let⟨q,_,_,hq,_⟩:=dd';⟨q,hq⟩;exact bq_5 I (by rw [e];exact True.intro) hs he (cu_4 hl hd (rel.put k rv) dd')
 ·subst ey eH;cases(show u=Value.ref b from ry);obtain⟨z,hd,xs,rel,dd⟩:=da_4 I.hok e;have hz:xs.length≤sizeLine:=by rw [←Paired.length rel];exact z
  have hl:(putK kvs k v).length≤sizeLine:=by have:=aj_5 kvs k v;omega
  refine wpAny_setItem_heap (hsz:=hz) (tupleKind_room_in1 hu) (bm_2 I.hok eb) dd fun h' dd' hs=>h _ ?_;obtain⟨q,es,ep,hq,h2,h3,h4,_,h5⟩:=dd';refine bq_5 I (by rw [e];exact True.intro) hs ⟨q,hq⟩ ⟨hl,hd,_,(rel.put k eb rv).keeps fun c ys ec=> ?_,q,es,ep,hq,h2,h3,h4,h5⟩;rw [b_1 (cy_0 ec e (fun z=>nomatch z))];exact ec
end
section
variable{X:Cx}{zd:List (Addr×Obj)}{σ:St}{H:Hp}{s:Shared}{a:Addr}{kvs:List (Key×V)}{k:Key}{u:Value}{A:Around}{E:Value→Shared→Prop}
end
def da_5(td ty tv:TE):TS:=fun D σ H=>tv σ H fun v H1=>td σ H1 fun x H2=>ty σ H2 fun y H3=>∃a H4,x= .ref a∧DPut H3 a y v H4∧D.nx σ H4
section
variable{X:Cx}{o i e value:Expr}{pos pos' zi:Pos}{td ty tv:TE}
theorem ck_5(hu:X.A.units + 1 < cLine)(ho:PE X o td)(hi:PE X i ty)(hv:PE X value tv)(hs:swapsWith value (some (.Subscript o i pos')) pos.line X.env=pure false):
  PS X (.Assign [.Subscript o i pos'] value pos) (da_5 td ty tv):=by
 intro zd s σ H D I h;refine wpAny_Assign_Subscript (thn (hv zd s σ H _ I h) fun r s1 ⟨v,H1,I1,rv,q1⟩=>thn (ho zd s1 σ H1 _ I1 q1) fun u s2 ⟨x,H2,I2,rx,q2⟩=>thn (hi zd s2 σ H2 _ I2 q2) fun iv s3 ⟨y,H3,I3,ry,a,H4,ex,g,q3⟩=> ?_) hs;subst ex;obtain rfl:u=Value.ref a:=rx;exact bw_0 hu I3 g ry rv fun s4 I4=>⟨σ,H4,I4,q3⟩
end
theorem cc_4{w:World}(h:Heap)(hb:sysModules < h.objs.size):ObjOk P w H (h.push {cls:= .type "dict",data:= .dict #[]}) h.objs.size (.dK []):=
 ⟨Nat.zero_le _,beq_eq_false_iff_ne.mpr (Ne.symm (Nat.ne_of_lt hb)), [], .nil,Heap.DictOf.new h⟩
def cu_5:TE:=fun _ H Q=>∀p,H p=none→Q (.ref p) (upd H p (.dK []))
section
variable{X:Cx}{pos:Pos}
theorem cc_5:PE X (.Dict [] [] pos) cu_5:=fun zd s σ H Q I h=>
 wpAny_Dict_empty ⟨.ref s.heap.objs.size,_,I.laid (a:=s.heap.objs.size) (o:= .dK []) (t':=s.toks) (fun _ _ q=>Heap.get?_push_of_some _ q) (Nat.le_refl _) (cc_4 s.heap I.big),rfl,h _ (I.hok.fresh (Nat.le_refl _))⟩
end
structure M1(X:Cx)(o:Expr)(m:Str)(zh:Pos)(e:Expr)(zf:Pos):Prop where
 base:attributeBase o m X.env (eval o X.env)=eval o X.env
 few:((backTo zf (starEach [e] X.env)).all (fun x=> !x.1) && (backToKw zf (keywordEach [] X.env)).all (fun x=>x.1.isSome)
  && decide (([e]:List Expr).length + ([]:List Keyword).length + (if([]:List Keyword).isEmpty then 0 else 1) < 30))=true
 line:(zh.endLine ==zf.line)=true
 trees:backTo zf (starEach [e] X.env)= [(false,eval e X.env)]
structure M2(X:Cx)(o:Expr)(m:Str)(zh:Pos)(e f:Expr)(zf:Pos):Prop where
 base:attributeBase o m X.env (eval o X.env)=eval o X.env
 few:((backTo zf (starEach [e,f] X.env)).all (fun x=> !x.1) && (backToKw zf (keywordEach [] X.env)).all (fun x=>x.1.isSome)
  && decide (([e,f]:List Expr).length + ([]:List Keyword).length + (if([]:List Keyword).isEmpty then 0 else 1) < 30))=true
 line:(zh.endLine ==zf.line)=true
 trees:backTo zf (starEach [e,f] X.env)= [(false,eval e X.env),(false,eval f X.env)]
section
variable{X:Cx}{zd:List (Addr×Obj)}{σ:St}{H:Hp}{s:Shared}{a:Addr}{y d:V}{u r:Value}{o:Option V}{A:Around}{E:Value→Shared→Prop}
end
section
variable{X:Cx}{o e f:Expr}{zh zf:Pos}{td ty tx:TE}
end
section
variable{X:Cx}{zd:List (Addr×Obj)}{σ:St}{H:Hp}{s:Shared}{a:Addr}{kvs:List (Key×V)}{A:Around}{E:Value→Shared→Prop}
end
section
variable{X:Cx}{zd:List (Addr×Obj)}{σ:St}{H:Hp}{s:Shared}{a:Addr}{y:V}{u:Value}{A:Around}{E:Value→Shared→Prop}
end
section
variable{X:Cx}
end
section
variable{κ:Type} [DecidableEq κ]
end
end L2
namespace L3
open PySem PySem.Spec PyProof.Rows L2
variable{K:Frag}{fd:FuncData}{mg:Str→Option Value}{P:Program}{vs:List V}{us:List Value}{base:Heap}{H:Hp}{X:Cx}{pos:Pos}{v:V}
section
variable{X:Cx}
theorem d_6{EX:EXT}{G H:Hp}{Q:VK}{d:D}(o:Out K EX G H (.ok (.sh d)) Q)(g:Same G H)(r:Has K G v d):Q v H:=WP.use o g r
def da_6(K:Frag):R2:=fun x y H Q=>∃l b xs zs,x= .ref l∧y= .ref b∧SqL K H l xs∧SqL K H b zs∧xs.length + zs.length≤sizeLine∧∀p,H p=none→Q (.ref p) (upd H p (.lst (xs ++ zs)))
theorem ck_6:OpR X (binaryOp .Add) (da_6 X.K):=by
 intro zd s σ H x y v u Q I rx ry h;obtain⟨l,b,xs,zs,rfl,rfl,hH,hB,hz,q⟩:=h;cases rx;cases ry;obtain⟨its,r,⟨o,n,e,c,dd,dat⟩,z⟩:=I.list hH;obtain⟨its2,r2,⟨o2,n2,e2,c2,dd2,dat2⟩,z2⟩:=I.list hB;have hl:=r.length;have hl2:=r2.length;obtain⟨cls,dd',data,sl⟩:=o;obtain⟨fq,fu,data2,sl2⟩:=o2;simp only at c dd dat c2 dd2 dat2;subst c dd dat c2 dd2 dat2;refine concat_meets ⟨_,e,rfl⟩ ⟨_,e2,rfl⟩ noFill_list_add seq_list_add PySem.F.slot_list_add PySem.F.entry_list_add (PySem.F.args_list_add_2 _ _) (list_addW l b its.toArray its2.toArray n n2 none none sl sl2 (by rw [List.size_toArray,List.size_toArray];omega)) ⟨e,e2, ?_⟩;have ea:its.toArray ++ its2.toArray=(its ++ its2).toArray:=by simp
 rw [ea];exact⟨.ref _,_,I.lnew (t':=s.toks) (r.append r2) (by rw [List.length_append];omega),rfl,q _ I.fresh⟩
def b_6:D→D→R W
 | .int i, .int j=> .ok (.sh (.int (i + j)))
 | .str x, .str y=>if x.length + y.length≤16777216 then .ok (.sh (.str (x ++ y))) else .no
 | .lst a, .lst b=>if a.length + b.length≤16777216 then .ok (.ow (.lst (a ++ b))) else .no
 |_,_=> .no
theorem a_9:OpD X (binaryOp .Add) b_6:=by
 intro zd s σ H x y v u Q I rx ry h;obtain⟨EX,G,a,b,g,ra,rb,o⟩:=h;cases ra with
 |int i=>
  cases rb with
  |int j=>exact cs_5 zd s σ H _ _ _ _ Q I rx ry ⟨i,j,rfl,rfl,d_6 o g (.int _)⟩
  |_=>exact False.elim o
 |str x=>
  cases rb with
  |str y=>
   simp only [b_6] at o
   split at o
   ·rename_i hz;exact bl_4 zd s σ H _ _ _ _ Q I rx ry ⟨x,y,rfl,rfl,by rw [sizeLine_eq];exact hz,d_6 o g (.str _)⟩
   ·exact o.elim
  |_=>exact False.elim o
 |lst h1 r1=>
  cases rb with
  |lst h2 r2=>
   simp only [b_6] at o
   split at o
   ·rename_i hz;exact ck_6 zd s σ H _ _ _ _ Q I rx ry ⟨_,_,_,_,rfl,rfl,g.seq h1,g.seq h2,by rw [r1.length,r2.length,sizeLine_eq];exact hz,v_7 o g (r1.append r2)⟩
   ·exact o.elim
  |_=>exact False.elim o
 |_=>cases rb <;> exact False.elim o
def intD(C:Int→Int→Bool)(f:Int→Int→Int):D→D→R W
 | .int i, .int j=>if C i j=true then .ok (.sh (.int (f i j))) else .no
 |_,_=> .no
theorem ae_5{fn:Value→Value→Sem Value}{C:Int→Int→Bool}{P:Int→Int→Prop}{f:Int→Int→Int}(h:OpR X fn (rI P fun i j=> .int (f i j)))(hC:∀i j,C i j=true→P i j):OpD X fn (intD C f):=by
 intro zd s σ H x y v u Q I rx ry q;obtain⟨EX,G,a,b,g,ra,rb,o⟩:=q;cases ra with
 |int i=>
  cases rb with
  |int j=>
   simp only [intD] at o
   split at o
   ·rename_i hc;exact h zd s σ H _ _ _ _ Q I rx ry ⟨i,j,rfl,rfl,hC i j hc,d_6 o g (.int _)⟩
   ·exact o.elim
  |_=>exact False.elim o
 |_=>cases rb <;> exact False.elim o
def subD:D→D→R W:=intD (fun _ _=>true) (fun i j=>i - j)
def mulC(i j:Int):Bool:=decide (i.natAbs < 18446744073709551616∨j.natAbs < 18446744073709551616)
def p_9:D→D→R W:=intD mulC (fun i j=>i * j)
def divC(_ j:Int):Bool:=decide (0 < j∧j.natAbs < 1361129467683753853853498429727072845824)
def h_1:D→D→R W:=intD divC (fun i j=>i / j)
def modC(_ j:Int):Bool:=decide (0 < j)
def d_7:D→D→R W:=intD modC (fun i j=>i % j)
def powC(i j:Int):Bool:=decide (0≤j∧j.natAbs≤1000000∧i.natAbs < 18446744073709551616)
def powD:D→D→R W:=intD powC (fun i j=>i ^ j.toNat)
theorem q_8:OpD X (binaryOp .Sub) subD:=ae_5 (P:=fun _ _=>True) (opI fun _ _ _ _ _ _ _ _ q=>sub_int q) fun _ _ _=>trivial
theorem e_7:OpD X (binaryOp .Mult) p_9:=ae_5 cs_6 fun i j h=>by
 have h:=of_decide_eq_true h;rcases h with h|h
 ·exact .inl ⟨by omega,by omega⟩
 ·exact .inr ⟨by omega,by omega⟩
theorem c_8:OpD X (binaryOp .FloorDiv) h_1:=ae_5 (P:=fun _ j=>0 < j∧j.natAbs < 1361129467683753853853498429727072845824) (opI fun i j _ _ _ _ _ hc q=>by
 have h1:(0:Int) < j:=hc.1;have h2:=hc.2;refine floordiv_int (by omega) ?_ (.inl (PyProof.noPylong_of_log2 ?_))
 ·rw [Int.fdiv_eq_ediv_of_nonneg i (by omega)];exact q
 ·have:j.natAbs < 2 ^ 130:=by
   have e:(2:Nat) ^ 130=1361129467683753853853498429727072845824:=by decide
   omega
  have l:j.natAbs.log2 < 130:=(Nat.log2_lt (by omega)).mpr this;omega) fun i j h=>of_decide_eq_true h
theorem b_5:OpD X (binaryOp .Mod) d_7:=ae_5 cs_7 fun i j h=>of_decide_eq_true h
theorem ck_8{i j:Int}(h:powC i j=true):CPow i j:=by
 obtain⟨h1,h2,h3⟩:=of_decide_eq_true h;refine⟨h1,by omega, ?_⟩;have e:(2:Nat) ^ 64=18446744073709551616:=by decide
 omega
theorem ae_6:OpD X (binaryOp .Pow) powD:=ae_5 cs_8 fun i j h=>ck_8 h
def cmpD(f:Int→Int→Bool):D→D→R W
 | .int i, .int j=> .ok (.sh (.bl (f i j)))
 |_,_=> .no
theorem ay_1{fn:Value→Value→Sem Value}{f:Int→Int→Bool}(h:OpR X fn (rI0 fun i j=> .bl (f i j))):OpD X fn (cmpD f):=by
 intro zd s σ H x y v u Q I rx ry q;obtain⟨EX,G,a,b,g,ra,rb,o⟩:=q;cases ra with
 |int i=>
  cases rb with
  |int j=>exact h zd s σ H _ _ _ _ Q I rx ry ⟨i,j,rfl,rfl,d_6 o g (.bl _)⟩
  |_=>exact False.elim o
 |_=>cases rb <;> exact False.elim o
def ltD:D→D→R W:=cmpD fun i j=>decide (i < j)
def leD:D→D→R W:=cmpD fun i j=>decide (i≤j)
def gtD:D→D→R W:=cmpD fun i j=>decide (j < i)
theorem ay_2:OpD X (compareOp .Lt) ltD:=ay_1 cz_5
theorem ac_5:OpD X (compareOp .LtE) leD:=ay_1 cz_6
theorem an_8:OpD X (compareOp .Gt) gtD:=ay_1 cz_7
mutual
def n_7:D→PyData
 | .non=> .none
 | .bl b=> .bool b
 | .int i=> .int i
 | .str x=> .str x
 | .lst ds=> .list (k_1 ds)
 | .tup ds=> .tuple (k_1 ds)
 | .dic _=> .dict []
 | .exn _ _ _=> .dict []
 | .obj _ _ _=> .dict []
def k_1:List D→List PyData
 | []=> []
 |d::ds=>n_7 d::k_1 ds
end
mutual
theorem Has.reads(hK:X.K=K){zd:List (Addr×Obj)}{σ:Sg}{s:Shared}(I:Inv X zd σ H s){G:Hp}(g:Same G H):∀{v:V} {d:D} {u:Value},(n_7 d).canLay0=true→Has K G v d→RelV v u→∃as,Reads s.heap u (n_7 d) as
 |_,_,_,_, .non,r=>by cases r;exact⟨_, .none⟩
 |_,_,_,_, .bl b,r=>by cases r;exact⟨_, .bool b⟩
 |_,_,_,_, .int i,r=>by obtain⟨t,rfl⟩:=r;exact⟨_, .int i t⟩
 |_,_,_,_, .str x,r=>by obtain⟨t,rfl⟩:=r;exact⟨_, .str x t⟩
 |_,_,_,c, .lst h r,q=>by
  cases q;obtain⟨its,rv,⟨o,n,e,c',_,dat⟩,_⟩:=I.list (by rw [hK];exact g.seq h);obtain⟨as,z⟩:=HasL.reads hK I g c r rv;exact⟨_, .list e c' dat z⟩
 |_,_,_,c, .tup h r,q=>by
  cases q;obtain⟨its,rv,⟨o,e,c',n,dat⟩,_⟩:=I.tuple (by rw [hK];exact Same.tupS g h);obtain⟨as,z⟩:=HasL.reads hK I g c r rv;exact⟨_, .tuple e c' dat z⟩
 |_,_,_,c, .exn0 _ _,_=>absurd c Bool.false_ne_true
 |_,_,_,c, .exn1 _ _ _ _ _,_=>absurd c Bool.false_ne_true
 |_,_,_,c, .dic _ _ _,_=>absurd c Bool.false_ne_true
 |_,_,_,c, .obj _ _ _ _,_=>absurd c Bool.false_ne_true
theorem HasL.reads(hK:X.K=K){zd:List (Addr×Obj)}{σ:Sg}{s:Shared}(I:Inv X zd σ H s){G:Hp}(g:Same G H):∀{vs:List V} {ds:List D} {us:List Value},PyData.canLayAll0 (k_1 ds)=true→HasL K G vs ds→Vals vs us→∃as,ReadsAll s.heap us (k_1 ds) as
 |_,_,_,_, .nil,r=>by cases r;exact⟨_, .nil⟩
 |_,_,_,c, .cons h t,r=>by
  cases r with
  |cons r1 r2=>
   have c':(PyData.canLay0 (n_7 _) && PyData.canLayAll0 (k_1 _))=true:=c;rw [Bool.and_eq_true] at c';obtain⟨a1,z1⟩:=Has.reads hK I g c'.1 h r1;obtain⟨a2,z2⟩:=HasL.reads hK I g c'.2 t r2;exact⟨_, .cons z1 z2⟩
end
def eqC(a b:D):Bool:=(n_7 a).canLay0 && (n_7 b).canLay0 && decide ((n_7 a).depth≤60)
def eqvD(a b:D):Bool:=(n_7 a).eqv (n_7 b)
def eqD(a b:D):R W:=match a,b with
 | .str x, .str y=> .ok (.sh (.bl (decide (x=y))))
 |a,b=>if eqC a b=true then .ok (.sh (.bl (eqvD a b))) else .no
def neD(a b:D):R W:=match a,b with
 | .str x, .str y=> .ok (.sh (.bl (!decide (x=y))))
 |a,b=>if eqC a b=true then .ok (.sh (.bl (!eqvD a b))) else .no
theorem be_7(x y:Str):decide (V.str x=V.str y)=decide (x=y):=by
 by_cases e:x=y
 ·subst e;simp
 ·rw [decide_eq_false e,decide_eq_false (fun z=>e (by injection z))]
theorem f_6(hu:X.A.units + 64 < cLine):OpD X (compareOp .Eq) eqD:=by
 intro zd s σ H x y v u Q I rx ry q;obtain⟨EX,G,a,b,g,ra,rb,o⟩:=q;unfold eqD at o
 split at o
 ·rename_i x y;cases ra;cases rb;exact cz_3 zd s σ H _ _ _ _ Q I rx ry ⟨rfl,by rw [be_7];exact d_6 o g (.bl _)⟩
 ·split at o
  ·rename_i hc;unfold eqC at hc;rw [Bool.and_eq_true,Bool.and_eq_true] at hc;obtain⟨⟨h1,h2⟩,h3⟩:=hc;have h3:=of_decide_eq_true h3;obtain⟨as,za⟩:=Has.reads rfl I g h1 ra rx;obtain⟨bs,zb⟩:=Has.reads rfl I g h2 rb ry;refine PySem.SeqAt.compareEq_reads za zb h1 h2 ?_ ⟨.bl _,H,I,rfl,d_6 o g (.bl _)⟩;have:=Nat.min_le_left (n_7 a).depth (n_7 b).depth;omega
  ·exact o.elim
theorem cu_6(hu:X.A.units + 64 < cLine):OpD X (compareOp .NotEq) neD:=by
 intro zd s σ H x y v u Q I rx ry q;obtain⟨EX,G,a,b,g,ra,rb,o⟩:=q;unfold neD at o
 split at o
 ·rename_i x y;cases ra;cases rb;exact cz_4 zd s σ H _ _ _ _ Q I rx ry ⟨rfl,by rw [be_7];exact d_6 o g (.bl _)⟩
 ·split at o
  ·rename_i hc;unfold eqC at hc;rw [Bool.and_eq_true,Bool.and_eq_true] at hc;obtain⟨⟨h1,h2⟩,h3⟩:=hc;have h3:=of_decide_eq_true h3;obtain⟨as,za⟩:=Has.reads rfl I g h1 ra rx;obtain⟨bs,zb⟩:=Has.reads rfl I g h2 rb ry;refine PySem.SeqAt.compareNe_reads za zb h1 h2 ?_ ⟨.bl _,H,I,rfl,d_6 o g (.bl _)⟩;have:=Nat.min_le_left (n_7 a).depth (n_7 b).depth;omega
  ·exact o.elim
def flatD:D→Bool
 | .non=>true
 | .bl _=>true
 | .int _=>true
 | .str _=>true
 |_=>false
def flV:D→V
 | .bl b=> .bl b
 | .int i=> .int i
 | .str x=> .str x
 |_=> .non
theorem Has.fl{G:Hp}{d:D}(r:Has K G v d)(f:flatD d=true):v=flV d∧ab_4 v=true:=by
 cases r with
 |non=>exact⟨rfl,rfl⟩
 |bl b=>exact⟨rfl,rfl⟩
 |int i=>exact⟨rfl,rfl⟩
 |str x=>exact⟨rfl,rfl⟩
 |lst _ _=>cases f
 |tup _ _=>cases f
 |exn0 _ _=>cases f
 |exn1 _ _ _ _ _=>cases f
 |dic _ _ _=>cases f
 |obj _ _ _ _=>cases f
theorem Has.ofFl{G G':Hp}{d:D}(r:Has K G v d)(f:flatD d=true):Has K G' v d:=by
 cases r with
 |non=>exact .non
 |bl b=>exact .bl b
 |int i=>exact .int i
 |str x=>exact .str x
 |lst _ _=>cases f
 |tup _ _=>cases f
 |exn0 _ _=>cases f
 |exn1 _ _ _ _ _=>cases f
 |dic _ _ _=>cases f
 |obj _ _ _ _=>cases f
theorem HasL.fl{G:Hp}:∀{vs:List V} {ds:List D},HasL K G vs ds→ds.all flatD=true→vs=ds.map flV∧vs.all ab_4=true
 |_,_, .nil,_=>⟨rfl,rfl⟩
 |_,_, .cons h r,f=>by
  rw [List.all_cons,Bool.and_eq_true] at f;obtain⟨e1,e2⟩:=h.fl f.1;obtain⟨e3,e4⟩:=HasL.fl r f.2;exact⟨by rw [List.map_cons,←e1,←e3],by rw [List.all_cons,e2,e4];rfl⟩
def eqF(a b:D):Bool:=eqV (flV a) (flV b)
def x_8(d:D)(ds:List D):Bool:=ds.any fun y=>eqF y d
theorem bq_6(d:D)(ds:List D):inV (flV d) (ds.map flV)=x_8 d ds:=by
 unfold inV x_8;rw [List.any_map];rfl
def inD(neg:Bool):D→D→R W
 | .str i, .str j=> .ok (.sh (.bl (if neg then !(!(Builtin.Str.occurrences j i 0 j.length 1).isEmpty) else !(Builtin.Str.occurrences j i 0 j.length 1).isEmpty)))
 |d, .lst ds=>if(flatD d && ds.all flatD)=true then .ok (.sh (.bl (if neg then !x_8 d ds else x_8 d ds))) else .no
 |d, .tup ds=>if(flatD d && ds.all flatD)=true then .ok (.sh (.bl (if neg then !x_8 d ds else x_8 d ds))) else .no
 |_,_=> .no
theorem bq_7{EX:EXT}{G H:Hp}{x y:V}{d:D}{e:D}{Q:VK}{neg:Bool}(g:Same G H)(ra:Has X.K G x d)(rb:Has X.K G y e)(hd:∀i j,d= .str i→e= .str j→False)(o:Out X.K EX G H (inD neg d e) Q):rIn X.K neg x y H Q:=by
 cases rb with
 |lst h r=>
  rename_i ds;have o':Out X.K EX G H (if(flatD d && ds.all flatD)=true then .ok (.sh (.bl (if neg then !x_8 d ds else x_8 d ds))) else .no) Q:=by
   cases d <;> exact o
  split at o'
  ·rename_i f;rw [Bool.and_eq_true] at f;obtain⟨e1,e2⟩:=ra.fl f.1;obtain⟨e3,e4⟩:=r.fl f.2;refine⟨_,_,rfl, .inl (g.seq h),e2,e4, ?_⟩;rw [e1,e3,bq_6];exact d_6 o' g (.bl _)
  ·exact o'.elim
 |tup h r=>
  rename_i ds;have o':Out X.K EX G H (if(flatD d && ds.all flatD)=true then .ok (.sh (.bl (if neg then !x_8 d ds else x_8 d ds))) else .no) Q:=by
   cases d <;> exact o
  split at o'
  ·rename_i f;rw [Bool.and_eq_true] at f;obtain⟨e1,e2⟩:=ra.fl f.1;obtain⟨e3,e4⟩:=r.fl f.2;refine⟨_,_,rfl, .inr (Same.tupS g h),e2,e4, ?_⟩;rw [e1,e3,bq_6];exact d_6 o' g (.bl _)
  ·exact o'.elim
 |str j=>
  cases d with
  |str i=>exact(hd i j rfl rfl).elim
  |_=>exact False.elim o
 |_=>cases d <;> exact False.elim o
theorem cc_6:OpD X (compareOp .In) (inD false):=by
 intro zd s σ H x y v u Q I rx ry q;obtain⟨EX,G,a,b,g,ra,rb,o⟩:=q
 by_cases hs:∃i j,a= .str i∧b= .str j
 ·obtain⟨i,j,rfl,rfl⟩:=hs;cases ra;cases rb;exact bu_9 zd s σ H _ _ _ _ Q I rx ry ⟨i,j,rfl,rfl,d_6 o g (.bl _)⟩
 ·exact bv_5 zd s σ H _ _ _ _ Q I rx ry (bq_7 g ra rb (fun i j e1 e2=>hs ⟨i,j,e1,e2⟩) o)
theorem ah_2:OpD X (compareOp .NotIn) (inD true):=by
 intro zd s σ H x y v u Q I rx ry q;obtain⟨EX,G,a,b,g,ra,rb,o⟩:=q
 by_cases hs:∃i j,a= .str i∧b= .str j
 ·obtain⟨i,j,rfl,rfl⟩:=hs;cases ra;cases rb;exact ax_4 zd s σ H _ _ _ _ Q I rx ry ⟨i,j,rfl,rfl,d_6 o g (.bl _)⟩
 ·exact ax_3 zd s σ H _ _ _ _ Q I rx ry (bq_7 g ra rb (fun i j e1 e2=>hs ⟨i,j,e1,e2⟩) o)
def k_2:List D→R W
 | [.str x]=>if x.length≤16777216 then .ok (.sh (.int x.length)) else .no
 | [.lst ds]=> .ok (.sh (.int ds.length))
 | [.tup ds]=> .ok (.sh (.int ds.length))
 |_=> .no
theorem b_8:ae_2 X (.builtin "len") k_2:=by
 intro zd s σ H vs us Q I rv q;obtain⟨EX,G,ds,g,r,o⟩:=q;cases r with
 |nil=>exact False.elim o
 |cons h t=>
  cases t with
  |cons _ _=>cases h <;> exact False.elim o
  |nil=>
   cases h with
   |str x=>
    simp only [k_2] at o
    split at o
    ·rename_i hz;exact ax_5 zd s σ H _ _ Q I rv ⟨x,rfl,by rw [sizeLine_eq];exact hz,d_6 o g (.int _)⟩
    ·exact o.elim
   |lst h r=>exact ae_0 zd s σ H _ _ Q I rv ⟨_,_,rfl, .inl (g.seq h),by rw [r.length];exact d_6 o g (.int _)⟩
   |tup h r=>exact ae_0 zd s σ H _ _ Q I rv ⟨_,_,rfl, .inr (Same.tupS g h),by rw [r.length];exact d_6 o g (.int _)⟩
   |_=>exact False.elim o
def maxD:List D→R W
 | [.int i, .int j]=> .ok (.sh (.int (if j > i then j else i)))
 |_=> .no
def minD:List D→R W
 | [.int i, .int j]=> .ok (.sh (.int (if j < i then j else i)))
 |_=> .no
theorem be_8{G:Hp}{ds:List D}(r:HasL K G vs ds){P:Prop}(h:∀i j,vs= [.int i, .int j]→ds= [.int i, .int j]→P)(n:(∀i j,ds≠ [.int i, .int j])→P):P:=by
 by_cases e:∃i j,ds= [.int i, .int j]
 ·obtain⟨i,j,rfl⟩:=e;cases r with
  |cons a t=>
   cases t with
   |cons b t2=>
    cases t2;cases a;cases b;exact h i j rfl rfl
 ·exact n fun i j z=>e ⟨i,j,z⟩
theorem cl_0{ds:List D}(h:∀i j,ds≠ [.int i, .int j]):maxD ds= .no:=by
 unfold maxD
 split
 ·rename_i i j;exact absurd rfl (h i j)
 ·rfl
theorem cl_1{ds:List D}(h:∀i j,ds≠ [.int i, .int j]):minD ds= .no:=by
 unfold minD
 split
 ·rename_i i j;exact absurd rfl (h i j)
 ·rfl
theorem aa_6(hc:X.calm=true):ae_2 X (.builtin "max") maxD:=by
 intro zd s σ H vs us Q I rv q;obtain⟨EX,G,ds,g,r,o⟩:=q;refine be_8 r (fun i j e1 e2=> ?_) fun n=> ?_
 ·subst e1 e2;exact bv_0 hc zd s σ H _ _ Q I rv ⟨i,j,rfl,d_6 o g (.int _)⟩
 ·rw [cl_0 n] at o;exact o.elim
theorem ah_3(hc:X.calm=true):ae_2 X (.builtin "min") minD:=by
 intro zd s σ H vs us Q I rv q;obtain⟨EX,G,ds,g,r,o⟩:=q;refine be_8 r (fun i j e1 e2=> ?_) fun n=> ?_
 ·subst e1 e2;exact bv_1 hc zd s σ H _ _ Q I rv ⟨i,j,rfl,d_6 o g (.int _)⟩
 ·rw [cl_1 n] at o;exact o.elim
def ab_5:List D→R W
 | [.int i]=> .ok (.sh (.int i))
 | [.bl k]=> .ok (.sh (.int (if k then 1 else 0)))
 |_=> .no
theorem ac_6:ae_2 X (.type "int") ab_5:=by
 intro zd s σ H vs us Q I rv q;obtain⟨EX,G,ds,g,r,o⟩:=q;cases r with
 |nil=>exact False.elim o
 |cons h t=>
  cases t with
  |cons _ _=>cases h <;> exact False.elim o
  |nil=>
   cases h with
   |int i=>exact at_4 zd s σ H _ _ Q I rv (.inl ⟨i,rfl,d_6 o g (.int _)⟩)
   |bl k=>exact at_4 zd s σ H _ _ Q I rv (.inr ⟨k,rfl,d_6 o g (.int _)⟩)
   |_=>exact False.elim o
def an_9:List D→R W
 | [.lst ds]=> .ok (.ow (.lst ds))
 | [.tup ds]=> .ok (.ow (.lst ds))
 |_=> .no
theorem be_9:ae_2 X (.type "list") an_9:=by
 intro zd s σ H vs us Q I rv q;obtain⟨EX,G,ds,g,r,o⟩:=q;cases r with
 |nil=>exact False.elim o
 |cons h t=>
  cases t with
  |cons _ _=>cases h <;> exact False.elim o
  |nil=>
   cases h with
   |lst h r=>exact ae_1 zd s σ H _ _ Q I rv ⟨_,_,rfl, .inl (g.seq h),v_7 o g r⟩
   |tup h r=>exact ae_1 zd s σ H _ _ Q I rv ⟨_,_,rfl, .inr (Same.tupS g h),v_7 o g r⟩
   |_=>exact False.elim o
end
structure RoomC(c:Bool)(k:Nat)(A:Around):Prop where
 hd:c=true→A.handled=none
 dp:A.depth + 3 * k + 5 < recursionLimit
 un:A.units + 16 * k + 200 < cLine
theorem RoomC.mono{c:Bool}{j k:Nat}{A:Around}(r:RoomC c k A)(h:j≤k):RoomC c j A:=⟨r.hd,by have:=r.dp;omega,by have:=r.un;omega⟩
theorem RoomC.deeper{c:Bool}{k:Nat}{A:Around}(r:RoomC c (k + 1) A)(env:Env):RoomC c k (A.deeper env):=
 ⟨r.hd,by have:=r.dp;show A.depth + 1 + 3 * k + 5 < _;omega,by have:=r.un;show A.units + 3 + 16 * k + 200 < _;omega⟩
theorem RoomC.make{c:Bool}{k:Nat}{A:Around}(r:RoomC c (k + 1) A)(C:Addr)(us:List Value)(kw:List (Str×Value)):RoomC c k (A.under (.builtin "type.__call__" ⟨.ref C::us,kw⟩)):=
 ⟨r.hd,by have:=r.dp;rw [bl_8];omega,by have:=r.un;rw [bl_9];omega⟩
theorem RoomC.loose{c:Bool}{k:Nat}{A:Around}(r:RoomC c k A):RoomC false k A:=⟨fun z=>absurd z Bool.false_ne_true,r.dp,r.un⟩
theorem RoomC.mark{c:Bool}{k:Nat}{A:Around}(r:RoomC c k A)(h:Option Value):RoomC false k (A.mark h):=⟨fun z=>absurd z Bool.false_ne_true,r.dp,r.un⟩
theorem RoomC.of{k:Nat}{A:Around}(r:Room k A):RoomC true k A:=⟨fun _=>r.hd,r.dp,r.un⟩
structure FnX(P:Program)(w:World)(K:Frag)(mg:Str→Option Value)(base:Heap)(c:Bool)(k:Nat)(f:Addr)(fd:FuncData)(ps:List Str)(sp:Sp):Prop where
 len:∀vs H Q E,sp vs H Q E→vs.length=ps.length
 run:∀(A:Around) (outer:List Env) (s:Shared) (H:Hp) (args:Args) (us:List Value) (vs:List V) (Q:VK) (E:XK),RoomC c k A→Env0 P w K mg base A outer s H→BindsTo s fd args (ps.zip us)→Vals vs us→sp vs H Q E→
  codeAny (model P w) A (.call (.ref f) args) (CR (CXr P w) outer P w H s Q E) s
abbrev cxN(c:Bool)(P:Program)(w:World)(K:Frag)(mg:Str→Option Value)(base:Heap)(N:List Str)(qual:Str)(scope:Scope)(f:Addr)(cd:Value)(A:Around)(outer:List Env)(s:Shared)(H:Hp)(E:XK):Cx:=
 {cxOf (CXr P w) P w K mg base N qual scope f cd A outer s H E with calm:=c}
theorem ao_0{c:Bool}{w:World}{N ps:List Str}{qual:Str}{scope:Scope}{f:Addr}{cd:Value}{A:Around}{outer:List Env}{s s1:Shared}{E:XK}{vs:List V}
  (S:FnScope N ps scope) (hd:c=true→A.handled=none) (e0:Env0 P w K mg base A outer s H) (hl:vs.length=ps.length) (r:Vals vs us)
  (x:InCallC s s.heap.objs.size (bindL (envOfC qual scope s.heap.objs.size f cd).kindOf (ps.zip us) fun _=>none) (cellsFrom (s.heap.objs.size + 1) scope.names []) (bindC (envOfC qual scope s.heap.objs.size f cd).kindOf (ps.zip us) fun _=>none) s1):
  Inv (cxN c P w K mg base N qual scope f cd A outer s H E) [] (m_5 N vs) H s1:=by
 have I:=bv_2 (CX:=CXr P w) (E:=E) (qual:=qual) (f:=f) (cd:=cd) (A:={A with handled:=none}) S rfl ⟨e0.frames,e0.mod,e0.bs,e0.bsz,e0.funs,e0.frf,e0.hok,e0.bare⟩ hl r x;exact⟨⟨I.ok.mod,I.ok.kind,I.ok.glob,I.ok.blt,I.ok.above,I.ok.inj,I.ok.has,I.ok.cab,hd,Around.frames_deeper e0.frames,I.ok.stk,I.ok.exf,I.ok.bs,I.ok.bsz,I.ok.noex,I.ok.exfs,I.ok.funs,I.ok.frf⟩,
  I.os,I.bare,I.base,I.loc,I.cell,I.free,I.freeC,I.pin,I.hok,I.len⟩
theorem cu_7{c:Bool}{w:World}{k:Nat}{f:Addr}{name qual:Str}{params:Arguments}{body:List Stmt}{scope:Scope}{dV kV doc pm zn ct oc:Value}{an od:Option Addr}
  {osl:Array (Option Value)} {N ps:List Str} {sp:Sp} (lk:K.lookup f=some ⟨oc,od, .func (fnOf name qual params body scope dV kV doc pm an zn ct),osl⟩) (hcd:codeIn K zn qual=true) (S:FnScope N ps scope)
  (len:∀vs H Q E,sp vs H Q E→vs.length=ps.length)
  (zj:∀(A:Around) (outer:List Env) (s:Shared) (H:Hp) (vs:List V) (Q:VK) (E:XK),RoomC c k (A.deeper (envOfC qual scope s.heap.objs.size f zn))→sp vs H Q E→
   ∃t,PSs (cxN c P w K mg base N qual scope f zn A outer s H E) body t∧t {nx:=fun _ H'=>Q .non H',rt:=Q} (m_5 N vs) H):
  FnX P w K mg base c (k + 1) f (fnOf name qual params body scope dV kV doc pm an zn ct) ps sp:=by
 refine⟨len,fun A outer s H args us vs Q E hr e0 hb r hsp=> ?_⟩;have hl:=len _ _ _ _ hsp;have KX:K.In s.heap:=e0.mod.kin.keeps fun b o e=>(e0.bs b o e).1;have lim:s.heap.NoLimit:=e0.mod.nolimit.keeps fun b o e=>(e0.bs b o e).1;have au:∀y∈ps.zip us,scope.names.lookup y.1=some .local∨(scope.names.lookup y.1=some .cell∧((cellsFrom (s.heap.objs.size + 1) scope.names []).lookup y.1).isSome=true):=fun⟨n,v⟩ hy=>by
  rcases S.par n (List.of_mem_zip hy).1 with q|q
  ·exact .inl q
  ·exact .inr ⟨q,cellsFrom_some _ _ _ (.inl q)⟩
 have dp:A.depth < recursionLimit:=by have:=hr.dp;omega
 refine codeAny_call_function dp (KX _ _ lk) rfl S.co S.gen rfl (codeRec_of KX hcd) (hb _ _ _ _ ?_);refine wpAny_newFunctionEnv_cells S.kind au fun env he s1 x=> ?_;subst he;refine⟨lim.keeps x.toInCall.keep,codeAny_func ?_⟩;obtain⟨t,ht,hq⟩:=zj A outer s H vs Q E (hr.deeper _) hsp;have I:Inv (cxN c P w K mg base N qual scope f zn A outer s H E) [] (m_5 N vs) H s1:=ao_0 S hr.hd e0 hl r x;refine wpAny_mono (ht [] s1 (m_5 N vs) H _ I hq) (fun fl s' hs=> ?_) fun e s' hs=>hs;have fin:∀{σ':Sg} {H':Hp} {v:V} {u:Value},Inv (cxN c P w K mg base N qual scope f zn A outer s H E) [] σ' H' s'→RelV v u→Q v H'→CE outer P w H s Q u s':=
  fun{σ' H' v u} J rv q=>⟨v,H',J.os,J.bare,J.base,J.hok,rv,q⟩
 cases fl with
 |ret u=>
  obtain⟨v,σ',H',J,rv,q⟩:=hs;exact fin J rv q
 |next=>
  obtain⟨σ',H',J,q⟩:=hs;exact fin (v:=V.non) (u:=Value.none) J rfl q
 |brk=>
  obtain⟨_,_,_,q⟩:=hs;exact False.elim q
 |cont=>
  obtain⟨_,_,_,q⟩:=hs;exact False.elim q
theorem Fun.okX{c:Bool}{w:World}{x qual:Str}{st:Stmt}{f:Addr}{N ps:List Str}{k:Nat}{sp:Sp}(F:Fun K x qual st f fd)(S:FnScope N ps (b_0 st))(len:∀vs H Q E,sp vs H Q E→vs.length=ps.length)
  (zj:∀(zn:Value) (A:Around) (outer:List Env) (s:Shared) (H:Hp) (vs:List V) (Q:VK) (E:XK),RoomC c k (A.deeper (envOfC qual (b_0 st) s.heap.objs.size f zn))→sp vs H Q E→
   ∃t,PSs (cxN c P w K mg base N qual (b_0 st) f zn A outer s H E) (e_2 st) t∧t {nx:=fun _ H'=>Q .non H',rt:=Q} (m_5 N vs) H):FnX P w K mg base c (k + 1) f fd ps sp:=by
 obtain⟨oc,od,kV,doc,pm,an,zn,ct,osl,rfl,lk,hcd⟩:=F.ex;exact cu_7 lk hcd S len fun A outer s H vs Q E hr hsp=>zj zn A outer s H vs Q E hr hsp
def Lk(X:Cx)(EX:EXS):Prop:=∀(zd:List (Addr×Obj)) (σ:Sg) (H:Hp) (s:Shared) (e:Value) (s':Shared),Inv X zd σ H s→CXr X.prog X.w X.stack H s (EXE X.K (EX σ)) e s'→X.xe e s'
theorem h_9:Lk X n_5:=fun zd σ H s e s' I c=>by
 obtain⟨a,C,dx,T,H',_,_,_,_,_,_,_,_,_,_,x,G,_,_,q⟩:=c;exact False.elim q
theorem bm_3{c:Bool}{w:World}{N:List Str}{qual:Str}{scope:Scope}{f:Addr}{cd:Value}{A:Around}{outer:List Env}{s:Shared}{E:XK}:
  Lk (cxN c P w K mg base N qual scope f cd A outer s H E) (fun _=>EXof K E):=fun zd σ H s e s' I h=>bv_8 I h fun cls dx H' q=>q.of
def spX(K:Frag)(n:Nat)(F:List D→R W):Sp:=fun vs H Q E=>vs.length=n∧∃G ds,Same G H∧HasL K G vs ds∧Out K (EXof K E) G H (F ds) Q
def eFn(n:Nat)(F:List D→R W)(fa:FA):FE:=fun δ=>(fa δ).bind fun ds=>if ds.length=n then F ds else .no
def FnD(P:Program)(w:World)(K:Frag)(mg:Str→Option Value)(base:Heap)(c:Bool)(x:Str)(k:Nat)(ps:List Str)(F:List D→R W):Prop:=
 ∃f fd,FnX P w K mg base c k f fd ps (spX K ps.length F)∧mg x=some (.ref f)∧keepIn K (.ref f)=true∧Binds K fd ps []
section
variable{X:Cx}{EX:EXS}{e:Expr}{es:List Expr}{fa:FA}{x:Str}{pp pos:Pos}{c:Bool}{k k':Nat}{ps:List Str}{F:List D→R W}
theorem ay_4{zd:List (Addr×Obj)}{σ:Sg}{s:Shared}{Q:VK}{f:Addr}{sp:Sp}(F:FnX X.prog X.w X.K X.mg X.base c k f fd ps sp)(hr:RoomC c k X.A)(hb:Binds X.K fd ps [])(lk:Lk X EX)
  (I:Inv X zd σ H s) (r:Vals vs us) (h:sp vs H Q (EXE X.K (EX σ))):wpAny (model X.prog X.w) X.A (call (.ref f) us) (EP X zd σ Q) X.xe s:=by
 have hl:us.length=ps.length:=by rw [←r.length];exact F.len _ _ _ _ h
 have hb':=hb s us I.kIn (by rw [List.append_nil];exact hl);rw [List.append_nil] at hb';refine wpAny_call (codeAny_mono (F.run X.A X.stack s H ⟨us, []⟩ us vs Q _ hr I.env0 hb' r h) fun r s' hq=> ?_);cases r with
 |error e=>exact lk zd σ H s e s' I hq
 |ok fl=>
  cases fl with
  |ret u=>exact I.after hq
  |next=>exact False.elim hq
  |brk=>exact False.elim hq
  |cont=>exact False.elim hq
theorem a_8(hr:RoomC c k' X.A)(lk:Lk X EX)(h:FnD X.prog X.w X.K X.mg X.base c x k ps F)(ha:AD X EX (e::es) fa)(hk:k≤k':=by decide)(hg:Gl X x:=by rfl)(hdb:(x ==("__debug__" :Str))=false:=by decide)
  (he:starEach (e::es) X.env=(false,eval e X.env)::starEach es X.env:=by rfl) (hpl:(backTo pos (starEach es X.env)).any (·.1)=false:=by rfl):
  ED X EX (.Call (.Name x pp) (e::es) [] pos) (eFn ps.length F fa):=by
 obtain⟨f,fd,ok,hm,kp,hb⟩:=h;intro zd s σ H Q I q;obtain⟨G,δ,g0,s0,o⟩:=q;refine wpAny_Call_Name_kw (q_7 I hg hm ?_ hdb);have ta:tDa X.K EX fa σ H fun vs H1=>spX X.K ps.length F vs H1 Q (EXE X.K (EX σ)):=by
  refine tDa.seq g0 s0 o fun ds vs G' H' _ st r o'=> ?_
  split at o'
  ·rename_i hl;refine⟨by rw [r.length];exact hl,G',ds,st.gh,r, ?_⟩;cases q:F ds with
   |ok w=>rw [q] at o';exact o'
   |ex x=>rw [q] at o';exact EXof.in o'
   |no=>rw [q] at o';exact o'.elim
  ·exact o'.elim
 refine callWith_K (h₀:=X.base) I.ok.mod.kin kp (thn (ha pos zd s σ H _ I ta) fun us s1 ⟨vs,H1,I1,r,q⟩=>⟨I1.kIn, ?_⟩) he hpl;exact ay_4 ok (hr.mono hk) hb lk I1 r q
end
inductive Sl where
 |no|sh (d:D)|ow (d:D)|tr (t:Tn)|lk (d:D)|lt (t:Tn)
abbrev SE:=List Sl
inductive Fl where
 |nx (Δ:SE)|rt (w:W)|bk (Δ:SE)|ct (Δ:SE)|ex (x:Xn) (Δ:SE)|no
abbrev FS:=SE→Fl
def Sl.pub:Sl→Option D
 | .sh d=>some d
 |_=>none
def Sl.any:Sl→Option D
 | .sh d=>some d
 | .ow d=>some d
 | .tr t=>some t.d
 | .lk d=>some d
 | .lt t=>some t.d
 | .no=>none
def Sl.give:Sl→Sl
 | .ow d=> .sh d
 | .tr t=> .sh t.d
 |s=>s
def Sl.own:Sl→Option Tn
 | .ow d=>some (Tn.of d)
 | .tr t=>some t
 | .lk d=>some (Tn.of d)
 | .lt t=>some t
 |_=>none
def vsh(Δ:SE):DE:=Δ.map Sl.pub
def vall(Δ:SE):DE:=Δ.map Sl.any
def gall(Δ:SE):SE:=Δ.map Sl.give
abbrev OS:=Nat→AS
structure HB where
 h:Hp
 b:Nat→Addr
structure Ev(K:Frag)(H0:HB)(G0 G H:Hp)(σ:Sg)(Δ:SE)(A:OS):Prop where
 st:Step G0 H0.h G H
 len:σ.length=Δ.length
 sh:∀(i:Nat) (d:D),Δ[i]? =some (.sh d)→∃v,σ[i]? =some (some v)∧Has K G v d
 ow:∀(i:Nat) (s:Sl) (t:Tn),Δ[i]? =some s→s.own=some t→∃v,σ[i]? =some (some v)∧Ow K G H v t (A i)
 out:∀(i:Nat) (a:Addr),A i a→G a=none∧H0.h a=none∧H a≠none
 dj:∀(i j:Nat) (a:Addr),A i a→A j a→i=j
 lk:∀(i:Nat) (d:D),Δ[i]? =some (.lk d)→σ[i]? =some (some (.ref (H0.b i)))
 lt:∀(i:Nat) (t:Tn),Δ[i]? =some (.lt t)→σ[i]? =some (some (.ref (H0.b i)))
def allG(G H:Hp)(A:OS):Hp:=m_6 G H fun b=>∃i,A i b
structure MStep(S:AS)(G H G' H':Hp):Prop where
 hh:∀b o,¬S b→H b=some o→H' b=some o
 al:∀b,H b≠none→H' b≠none
 gh:Same G' H'
 gg:Same G G'
 nw:∀b,G b=none→H b≠none→G' b=none
structure MStep2(S:AS)(G H G' H':Hp):Prop where
 hh:∀b o,¬S b→H b=some o→H' b=some o
 gh:Same G' H'
 gg:Same G G'
 nw:∀b,¬S b→G b=none→H b≠none→G' b=none
theorem MStep.weak{S:AS}{G H G' H':Hp}(m:MStep S G H G' H'):MStep2 S G H G' H':=⟨m.hh,m.gh,m.gg,fun b _=>m.nw b⟩
theorem Step.m{S:AS}{G H G' H':Hp}(s:Step G H G' H'):MStep S G H G' H':=⟨fun b o _ q=>s.hh b o q,fun b n z=>n (s.hh.free z),s.gh,s.gg,s.nw⟩
theorem MStep.andThen{S:AS}{G H G1 H1 G2 H2:Hp}(a:MStep S G H G1 H1)(b:Step G1 H1 G2 H2):MStep S G H G2 H2:=
 ⟨fun c o n q=>b.hh c o (a.hh c o n q),fun c n z=>a.al c n (b.hh.free z),b.gh,a.gg.trans b.gg,fun c e n=>b.nw c (a.nw c e n) (a.al c n)⟩
theorem MStep.write{S:AS}{G H:Hp}(g:Same G H){a:Addr}(hs:S a)(n:G a=none)(o:HO):MStep S G H G (L2.upd H a o):=
 ⟨fun b o' nb q=>by rw [b_1 (fun z=>nb (by rw [z];exact hs))];exact q,fun b nb=>by
  by_cases z:b=a
  ·subst z;rw [b_4];simp
  ·rw [b_1 z];exact nb,fun b o' q=>by
  by_cases z:b=a
  ·subst z;rw [n] at q;cases q
  ·rw [b_1 z];exact g b o' q,Same.refl _,fun _ e _=>e⟩
def setA(A:OS)(i:Nat)(S:AS):OS:=fun j=>if j=i then S else A j
theorem i_1{A:OS}{i:Nat}{S:AS}:setA A i S i=S:=if_pos rfl
theorem i_0{A:OS}{i j:Nat}{S:AS}(h:j≠i):setA A i S j=A j:=if_neg h
section
variable{K:Frag}{H0:HB}{G0 G H G' H':Hp}{σ:Sg}{Δ:SE}{A:OS}
theorem Ev.gsh(E:Ev K H0 G0 G H σ Δ A):HasS K G σ (vsh Δ):=⟨by rw [E.len];unfold vsh;rw [List.length_map],fun i d q=>by
 unfold vsh at q;rw [List.getElem?_map] at q;cases e:Δ[i]? with
 |none=>rw [e] at q;cases q
 |some z=>
  rw [e] at q;cases z with
  |sh d'=>cases q;exact E.sh i d e
  |_=>cases q⟩
theorem Ev.aH(E:Ev K H0 G0 G H σ Δ A):Same (allG G H A) H:=fun b o q=>by
 unfold allG m_6 at q
 split at q
 ·exact q
 ·exact E.st.gh b o q
theorem Ev.aG(E:Ev K H0 G0 G H σ Δ A):Same G (allG G H A):=fun b o q=>by
 unfold allG m_6
 split
 ·rename_i hb;obtain⟨i,hb⟩:=hb;rw [(E.out i b hb).1] at q;cases q
 ·exact q
theorem Ev.aStep(E:Ev K H0 G0 G H σ Δ A):Step G0 H0.h (allG G H A) H:=
 ⟨E.st.hh,E.aH,E.st.gg.trans E.aG,fun b n z=>by
  unfold allG m_6
  split
  ·rename_i hb;obtain⟨i,hb⟩:=hb;exact absurd (E.out i b hb).2.1 z
  ·exact E.st.nw b n z⟩
theorem Ev.aIn{A:OS}{G H:Hp}{i:Nat}{b:Addr}{o:HO}(hb:A i b)(q:H b=some o):allG G H A b=some o:=by
 unfold allG m_6;rw [if_pos ⟨i,hb⟩];exact q
theorem Ev.gall(E:Ev K H0 G0 G H σ Δ A):HasS K (allG G H A) σ (vall Δ):=⟨by rw [E.len];unfold vall;rw [List.length_map],fun i d q=>by
 unfold vall at q;rw [List.getElem?_map] at q;cases e:Δ[i]? with
 |none=>rw [e] at q;cases q
 |some z=>
  rw [e] at q;cases z with
  |sh d'=>
   cases q;obtain⟨v,e1,r⟩:=E.sh i d e;exact⟨v,e1,r.mono E.aG⟩
  |ow d'=>
   cases q;obtain⟨v,e1,t⟩:=E.ow i _ _ e rfl;have r:=t.has E.aG fun b o hb q=>Ev.aIn hb q;rw [Tn.of_d] at r;exact⟨v,e1,r⟩
  |tr t'=>
   cases q;obtain⟨v,e1,t⟩:=E.ow i _ _ e rfl;exact⟨v,e1,t.has E.aG fun b o hb q=>Ev.aIn hb q⟩
  |lk d'=>
   cases q;obtain⟨v,e1,t⟩:=E.ow i _ _ e rfl;have r:=t.has E.aG fun b o hb q=>Ev.aIn hb q;rw [Tn.of_d] at r;exact⟨v,e1,r⟩
  |lt t'=>
   cases q;obtain⟨v,e1,t⟩:=E.ow i _ _ e rfl;exact⟨v,e1,t.has E.aG fun b o hb q=>Ev.aIn hb q⟩
  |no=>cases q⟩
theorem Ev.grow(E:Ev K H0 G0 G H σ Δ A)(s:Step G H G' H'):Ev K H0 G0 G' H' σ Δ A:=
 ⟨E.st.trans s,E.len,fun i d e=>let⟨v,e1,r⟩:=E.sh i d e;⟨v,e1,r.mono s.gg⟩,fun i z d e z'=>let⟨v,e1,t⟩:=E.ow i z d e z';⟨v,e1,t.mono s.gg (fun b o _ q=>s.hh b o q) fun _ q=>q⟩,
  fun i a ha=>let⟨h1,h2,h3⟩:=E.out i a ha;⟨s.nw a h1 h3,h2,fun z=>h3 (s.hh.free z)⟩,E.dj,E.lk,E.lt⟩
theorem Ev.keep(E:Ev K H0 G0 G H σ Δ A)(s:Same H H'):Ev K H0 G0 G H' σ Δ A:=
 E.grow ⟨s,E.st.gh.trans s,Same.refl _,fun _ n _=>n⟩
theorem h_6{α:Type}{l:List α}{i j:Nat}{x y:α}(h:(l.set i x)[j]? =some y):(i=j∧y=x)∨(i≠j∧l[j]? =some y):=by
 by_cases e:i=j
 ·subst e;rw [List.getElem?_set] at h;simp only [if_true] at h
  split at h
  ·exact .inl ⟨rfl,(Option.some.inj h).symm⟩
  ·cases h
 ·rw [List.getElem?_set_ne e] at h;exact .inr ⟨e,h⟩
theorem bm_4{α:Type}{l:List α}{i:Nat}{x y:α}(h:(l.set i x)[i]? =some y):i < l.length:=by
 by_cases hh:i < l.length
 ·exact hh
 ·rw [List.getElem?_eq_none (by rw [List.length_set];omega)] at h;cases h
theorem Ev.put(E:Ev K H0 G0 G H σ Δ A){i:Nat}{d:D}(r:Has K G v d):Ev K H0 G0 G H (σ.set i (some v)) (Δ.set i (.sh d)) A:=by
 refine⟨E.st,by rw [List.length_set,List.length_set];exact E.len,fun j d' e=> ?_,fun j z d' e zo=> ?_,E.out,E.dj,fun j d' e=> ?_,fun j d' e=> ?_⟩
 ·rcases h_6 e with⟨rfl,q⟩|⟨n,q⟩
  ·cases q;exact⟨v,by rw [List.getElem?_set_self (by rw [E.len];exact bm_4 e)],r⟩
  ·obtain⟨v',e1,r'⟩:=E.sh j d' q;exact⟨v',by rw [List.getElem?_set_ne n];exact e1,r'⟩
 ·rcases h_6 e with⟨rfl,q⟩|⟨n,q⟩
  ·subst q;cases zo
  ·obtain⟨v',e1,t⟩:=E.ow j z d' q zo;exact⟨v',by rw [List.getElem?_set_ne n];exact e1,t⟩
 ·rcases h_6 e with⟨rfl,q⟩|⟨n,q⟩
  ·cases q
  ·rw [List.getElem?_set_ne n];exact E.lk j d' q
 ·rcases h_6 e with⟨rfl,q⟩|⟨n,q⟩
  ·cases q
  ·rw [List.getElem?_set_ne n];exact E.lt j d' q
theorem Ev.putO(E:Ev K H0 G0 G H σ Δ A){i:Nat}{z:Sl}{d:Tn}{S:AS}(fr:∀a,S a→H0.h a=none∧G a=none∧H a≠none)(zo:z.own=some d)(zl:∀d,z≠ .lk d)(t:Ow K G H v d S)(nw:∀j a,A j a→¬S a)(zt:∀d,z= .lt d→v= .ref (H0.b i):=by intro _ z;cases z):
  Ev K H0 G0 G H (σ.set i (some v)) (Δ.set i z) (setA A i S):=by
 refine⟨E.st,by rw [List.length_set,List.length_set];exact E.len,fun j d' e'=> ?_,fun j z' d' e' zo'=> ?_,fun j a ha=> ?_,fun j j' a h1 h2=> ?_,fun j d' e'=> ?_,fun j d' e'=> ?_⟩
 ·rcases h_6 e' with⟨rfl,q⟩|⟨nn,q⟩
  ·subst q;cases zo
  ·obtain⟨v',e1,r'⟩:=E.sh j d' q;exact⟨v',by rw [List.getElem?_set_ne nn];exact e1,r'⟩
 ·rcases h_6 e' with⟨rfl,q⟩|⟨nn,q⟩
  ·subst q;rw [zo] at zo';cases zo';exact⟨v,by rw [List.getElem?_set_self (by rw [E.len];exact bm_4 e')],by rw [i_1];exact t⟩
  ·obtain⟨v',e1,x⟩:=E.ow j z' d' q zo';exact⟨v',by rw [List.getElem?_set_ne nn];exact e1,by rw [i_0 (Ne.symm nn)];exact x⟩
 ·by_cases z:j=i
  ·subst z;rw [i_1] at ha;obtain⟨a1,a2,a3⟩:=fr a ha;exact⟨a2,a1,a3⟩
  ·rw [i_0 z] at ha;exact E.out j a ha
 ·by_cases z:j=i
  ·by_cases z':j'=i
   ·rw [z,z']
   ·rw [z,i_1] at h1;rw [i_0 z'] at h2;exact absurd h1 (nw j' a h2)
  ·by_cases z':j'=i
   ·rw [i_0 z] at h1;rw [z',i_1] at h2;exact absurd h2 (nw j a h1)
   ·rw [i_0 z] at h1;rw [i_0 z'] at h2;exact E.dj j j' a h1 h2
 ·rcases h_6 e' with⟨rfl,q⟩|⟨nn,q⟩
  ·exact absurd q.symm (zl d')
  ·rw [List.getElem?_set_ne nn];exact E.lk j d' q
 ·rcases h_6 e' with⟨rfl,q⟩|⟨nn,q⟩
  ·rw [List.getElem?_set_self (by rw [E.len];exact bm_4 e'),zt d' q.symm]
  ·rw [List.getElem?_set_ne nn];exact E.lt j d' q
theorem Ev.step2(E:Ev K H0 G0 G H σ Δ A){i:Nat}{z:Sl}{d':Tn}{S:AS}(zo:z.own=some d')(zl:∀d,z≠ .lk d)(zt:∀d,z= .lt d→σ[i]? =some (some (.ref (H0.b i))))(ms:MStep2 (A i) G H G' H')(s:σ[i]? =some (some v))(fr:∀a,S a→(A i a∨H a=none)∧G' a=none∧H' a≠none)(t:Ow K G' H' v d' S):
  Ev K H0 G0 G' H' σ (Δ.set i z) (setA A i S):=by
 have st:Step G0 H0.h G' H':=⟨fun b o q=>ms.hh b o (fun hb=>by rw [(E.out i b hb).2.1] at q;cases q) (E.st.hh b o q),ms.gh,E.st.gg.trans ms.gg,
  fun b n z=>ms.nw b (fun hb=>z (E.out i b hb).2.1) (E.st.nw b n z) fun q=>z (E.st.hh.free q)⟩
 refine⟨st,by rw [List.length_set];exact E.len,fun j d2 e'=> ?_,fun j z' d2 e' zo'=> ?_,fun j a ha=> ?_,fun j j' a h1 h2=> ?_,fun j d2 e'=> ?_,fun j d2 e'=> ?_⟩
 ·rcases h_6 e' with⟨rfl,q⟩|⟨nn,q⟩
  ·subst q;cases zo
  ·obtain⟨v',e1,r'⟩:=E.sh j d2 q;exact⟨v',e1,r'.mono ms.gg⟩
 ·rcases h_6 e' with⟨rfl,q⟩|⟨nn,q⟩
  ·subst q;rw [zo] at zo';cases zo';exact⟨v,s,by rw [i_1];exact t⟩
  ·obtain⟨v',e1,x⟩:=E.ow j z' d2 q zo';rw [i_0 (Ne.symm nn)];exact⟨v',e1,x.mono ms.gg (fun b o hb q=>ms.hh b o (fun hi=>nn (E.dj i j b hi hb)) q) fun _ q=>q⟩
 ·by_cases z:j=i
  ·subst z;rw [i_1] at ha;obtain⟨a1,a2,a3⟩:=fr a ha;refine⟨a2, ?_,a3⟩;rcases a1 with a1|a1
   ·exact(E.out j a a1).2.1
   ·exact E.st.hh.free a1
  ·rw [i_0 z] at ha;obtain⟨h1,h2,h3⟩:=E.out j a ha;have hn:¬A i a:=fun hb=>z (E.dj j i a ha hb);refine⟨ms.nw a hn h1 h3,h2,fun q=> ?_⟩;cases e:H a with
   |none=>exact h3 e
   |some o=>rw [ms.hh a o hn e] at q;cases q
 ·have own:∀k,k≠i→A k a→¬S a:=fun k nk hk hs=>by
   rcases(fr a hs).1 with q|q
   ·exact nk (E.dj k i a hk q)
   ·exact(E.out k a hk).2.2 q
  by_cases z:j=i
  ·by_cases z':j'=i
   ·rw [z,z']
   ·rw [z,i_1] at h1;rw [i_0 z'] at h2;exact absurd h1 (own j' z' h2)
  ·by_cases z':j'=i
   ·rw [i_0 z] at h1;rw [z',i_1] at h2;exact absurd h2 (own j z h1)
   ·rw [i_0 z] at h1;rw [i_0 z'] at h2;exact E.dj j j' a h1 h2
 ·rcases h_6 e' with⟨rfl,q⟩|⟨nn,q⟩
  ·exact absurd q.symm (zl d2)
  ·exact E.lk j d2 q
 ·rcases h_6 e' with⟨rfl,q⟩|⟨nn,q⟩
  ·exact zt d2 q.symm
  ·exact E.lt j d2 q
theorem Ev.step(E:Ev K H0 G0 G H σ Δ A){i:Nat}{z:Sl}{d':Tn}{S:AS}(zo:z.own=some d')(zl:∀d,z≠ .lk d)(ms:MStep (A i) G H G' H')(s:σ[i]? =some (some v))(fr:∀a,S a→(A i a∨H a=none)∧G' a=none∧H' a≠none)(t:Ow K G' H' v d' S)(zt:∀d,z≠ .lt d:=by intro _ z;cases z):
  Ev K H0 G0 G' H' σ (Δ.set i z) (setA A i S):=E.step2 zo zl (fun d e=>absurd e (zt d)) ms.weak s fr t
theorem Ev.writeL(E:Ev K H0 G0 G H σ Δ A){i:Nat}{a:Addr}{ds:List D}(s:σ[i]? =some (some (.ref a)))(m:A i a)(r:HasL K G vs ds):Ev K H0 G0 G (upd H a (.lst vs)) σ (Δ.set i (.ow (.lst ds))) (setA A i (A i)):=
 have ms:=MStep.write E.st.gh m (E.out i a m).1 (.lst vs)
 E.step rfl (fun _ z=>by cases z) ms s (fun b hb=>⟨.inl hb,(E.out i b hb).1,ms.al b (E.out i b hb).2.2⟩) (Ow.list b_4 m r)
theorem Ev.writeD(E:Ev K H0 G0 G H σ Δ A){i:Nat}{a:Addr}{kvs:List (Key×V)}{kds:List (Key×D)}(s:σ[i]? =some (some (.ref a)))(m:A i a)(hk:kvs.map (·.1)=kds.map (·.1))(r:HasL K G (kvs.map (·.2)) (kds.map (·.2))):Ev K H0 G0 G (upd H a (.dK kvs)) σ (Δ.set i (.ow (.dic kds))) (setA A i (A i)):=
 have ms:=MStep.write E.st.gh m (E.out i a m).1 (.dK kvs)
 E.step rfl (fun _ z=>by cases z) ms s (fun b hb=>⟨.inl hb,(E.out i b hb).1,ms.al b (E.out i b hb).2.2⟩) (Ow.dict b_4 hk m r)
end
def give1(Δ:SE)(j:Nat):SE:=match Δ[j]? with
 |some s=>Δ.set j s.give
 |none=>Δ
def gsome(js:List Nat)(Δ:SE):SE:=js.foldl give1 Δ
section
variable{K:Frag}{H0:HB}{G0 G H:Hp}{σ:Sg}{Δ:SE}{A:OS}
theorem x_9{α:Type}{l:List α}{j:Nat}{x:α}(h:l[j]? =some x):l.set j x=l:=by
 apply List.ext_getElem?;intro i
 by_cases e:j=i
 ·subst e;have hlt:j < l.length:=(List.getElem?_eq_some_iff.mp h).1;rw [List.getElem?_set_self hlt,h]
 ·rw [List.getElem?_set_ne e]
theorem Ev.give3(E:Ev K H0 G0 G H σ Δ A){j:Nat}{z:Sl}{t:Tn}(e:Δ[j]? =some z)(zo:z.own=some t):Same G (m_6 G H (A j))∧Ev K H0 G0 (m_6 G H (A j)) H σ (Δ.set j (.sh t.d)) (setA A j fun _=>False):=by
   obtain⟨v,s1,t⟩:=E.ow j z t e zo;have sg:Same G (m_6 G H (A j)):=fun b o q=>by
    unfold m_6
    split
    ·rename_i hb;rw [(E.out j b hb).1] at q;cases q
    ·exact q
   have gh:Same (m_6 G H (A j)) H:=fun b o q=>by
    unfold m_6 at q
    split at q
    ·exact q
    ·exact E.st.gh b o q
   refine⟨sg,⟨E.st.hh,gh,E.st.gg.trans sg,fun b h1 h2=> ?_⟩,by rw [List.length_set];exact E.len,fun i d' e'=> ?_,fun i z' d' e' zo'=> ?_,fun i b hb=> ?_,fun i i' b h1 h2=> ?_,fun i d' e'=> ?_,fun i d' e'=> ?_⟩
   ·unfold m_6
    split
    ·rename_i hb;exact absurd (E.out j b hb).2.1 h2
    ·exact E.st.nw b h1 h2
   ·rcases h_6 e' with⟨rfl,q⟩|⟨n,q⟩
    ·cases q;refine⟨v,s1,t.has sg fun b o hb q=> ?_⟩;unfold m_6;rw [if_pos hb];exact q
    ·obtain⟨v',e1,r⟩:=E.sh i d' q;exact⟨v',e1,r.mono sg⟩
   ·rcases h_6 e' with⟨rfl,q⟩|⟨n,q⟩
    ·subst q;cases zo'
    ·obtain⟨v',e1,t'⟩:=E.ow i z' d' q zo';rw [i_0 (Ne.symm n)];exact⟨v',e1,t'.mono sg (fun b o _ q=>q) fun _ q=>q⟩
   ·by_cases z:i=j
    ·subst z;rw [i_1] at hb;exact hb.elim
    ·rw [i_0 z] at hb;obtain⟨k1,k2,k3⟩:=E.out i b hb;refine⟨?_,k2,k3⟩;unfold m_6;rw [if_neg fun q=>z (E.dj i j b hb q)];exact k1
   ·by_cases z:i=j
    ·subst z;rw [i_1] at h1;exact h1.elim
    ·by_cases z':i'=j
     ·subst z';rw [i_1] at h2;exact h2.elim
     ·rw [i_0 z] at h1;rw [i_0 z'] at h2;exact E.dj i i' b h1 h2
   ·rcases h_6 e' with⟨rfl,q⟩|⟨n,q⟩
    ·cases q
    ·exact E.lk i d' q
   ·rcases h_6 e' with⟨rfl,q⟩|⟨n,q⟩
    ·cases q
    ·exact E.lt i d' q
theorem Ev.give2(E:Ev K H0 G0 G H σ Δ A){j:Nat}{z:Sl}{t:Tn}(e:Δ[j]? =some z)(zo:z.own=some t):∃G' A',Same G G'∧Ev K H0 G0 G' H σ (Δ.set j (.sh t.d)) A':=⟨_,_,E.give3 e zo⟩
theorem Ev.give1(E:Ev K H0 G0 G H σ Δ A)(j:Nat):∃G' A',Same G G'∧Ev K H0 G0 G' H σ (L3.give1 Δ j) A':=by
 unfold L3.give1;cases e:Δ[j]? with
 |none=>exact⟨G,A,Same.refl _,E⟩
 |some s=>
  cases s with
  |no=>exact⟨G,A,Same.refl _,by show Ev K H0 G0 G H σ (Δ.set j .no) A;rw [x_9 e];exact E⟩
  |sh d=>exact⟨G,A,Same.refl _,by show Ev K H0 G0 G H σ (Δ.set j (.sh d)) A;rw [x_9 e];exact E⟩
  |ow d=>
   have:=E.give2 e (t:=Tn.of d) rfl;rw [Tn.of_d] at this;exact this
  |tr t=>exact E.give2 e rfl
  |lk d=>exact⟨G,A,Same.refl _,by show Ev K H0 G0 G H σ (Δ.set j (.lk d)) A;rw [x_9 e];exact E⟩
  |lt t=>exact⟨G,A,Same.refl _,by show Ev K H0 G0 G H σ (Δ.set j (.lt t)) A;rw [x_9 e];exact E⟩
theorem Ev.gsome:∀(js:List Nat) {G:Hp} {Δ:SE} {A:OS},Ev K H0 G0 G H σ Δ A→∃G' A',Same G G'∧Ev K H0 G0 G' H σ (L3.gsome js Δ) A'
 | [],G,Δ,A,E=>⟨G,A,Same.refl _,E⟩
 |j::js,G,Δ,A,E=>by
  obtain⟨G1,A1,s1,E1⟩:=E.give1 j;obtain⟨G2,A2,s2,E2⟩:=Ev.gsome js E1;exact⟨G2,A2,s1.trans s2,E2⟩
end
def Fin(K:Frag)(EX:EXS)(H0:HB)(G0 G1:Hp)(D:Ends):Fl→Prop
 | .nx Δ=>∀σ G H O,Ev K H0 G0 G H σ Δ O→Same G1 G→D.nx σ H
 | .bk Δ=>∀σ G H O,Ev K H0 G0 G H σ Δ O→Same G1 G→D.bk σ H
 | .ct Δ=>∀σ G H O,Ev K H0 G0 G H σ Δ O→Same G1 G→D.ct σ H
 | .rt w=>WP K G0 H0.h w D.rt
 | .ex x Δ=>∀σ G H O,Ev K H0 G0 G H σ Δ O→Same G1 G→(EX σ).p x G H
 | .no=>False
theorem Fin.mono{EX:EXS}{H0:HB}{G0 G1 G2:Hp}{D:Ends}{r:Fl}(s:Same G1 G2)(h:Fin K EX H0 G0 G1 D r):Fin K EX H0 G0 G2 D r:=by
 cases r with
 |nx Δ=>exact fun σ G H O E q=>h σ G H O E (s.trans q)
 |bk Δ=>exact fun σ G H O E q=>h σ G H O E (s.trans q)
 |ct Δ=>exact fun σ G H O E q=>h σ G H O E (s.trans q)
 |rt w=>exact h
 |ex x Δ=>exact fun σ G H O E q=>h σ G H O E (s.trans q)
 |no=>exact h
def tS(K:Frag)(EX:EXS)(g:FS):TS:=fun D σ H=>∃H0 G0 G Δ O,Ev K H0 G0 G H σ Δ O∧Fin K EX H0 G0 G D (g Δ)
abbrev SD(X:Cx)(EX:EXS)(st:Stmt)(g:FS):Prop:=PS X st (tS X.K EX g)
abbrev BD(X:Cx)(EX:EXS)(st:List Stmt)(g:FS):Prop:=PSs X st (tS X.K EX g)
section
variable{X:Cx}{EX:EXS}{st:Stmt}{sts:List Stmt}{g h:FS}{pos:Pos}{e:Expr}{f:FE}{p:FT}
def sNil:FS:=fun Δ=> .nx Δ
def sSeq(g h:FS):FS:=fun Δ=>match g Δ with
 | .nx Δ'=>h Δ'
 |r=>r
theorem c_1:BD X EX [] sNil:=PSs.imp ci_9 fun D σ H ⟨H0,G0,G,Δ,O,E,q⟩=>q σ G H O E (Same.refl _)
theorem a_6(h1:SD X EX st g):BD X EX [st] g:=al_7 h1
theorem a_5(h1:SD X EX st g)(h2:BD X EX sts h):BD X EX (st::sts) (sSeq g h):=
 PSs.imp (bz_9 h1 h2) fun D σ H ⟨H0,G0,G,Δ,O,E,q⟩=>by
  refine⟨H0,G0,G,Δ,O,E, ?_⟩;unfold sSeq at q;cases e:g Δ with
  |nx Δ'=>rw [e] at q;exact fun σ' G' H' O' E' sm=>⟨H0,G0,G',Δ',O',E',Fin.mono sm q⟩
  |bk Δ'=>rw [e] at q;exact q
  |ct Δ'=>rw [e] at q;exact q
  |rt w=>rw [e] at q;exact q
  |ex x Δ'=>rw [e] at q;exact q
  |no=>rw [e] at q;exact q
def exG(js:List Nat)(f:FE)(Δ:SE):Fl:=match f (vsh (gsome js Δ)) with
 | .ex x=> .ex x (gsome js Δ)
 |_=> .no
def exT(js:List Nat)(p:FT)(Δ:SE):Fl:=match p (vsh (gsome js Δ)) with
 | .ex x=> .ex x (gsome js Δ)
 |_=> .no
theorem bf_1{H0:HB}{G0 G G1 H:Hp}{σ:Sg}{Δ:SE}{O:OS}{D:Ends}{js:List Nat}{Q:VK}(E:Ev K H0 G0 G H σ Δ O)(sg:Same G1 G)(q:Fin K EX H0 G0 G1 D (exG js f Δ)):tD K EX f σ H Q:=by
 obtain⟨G',O',s',E'⟩:=E.gsome js;refine⟨G',vsh (gsome js Δ),E'.st.gh,E'.gsh, ?_⟩;unfold exG at q;cases e:f (vsh (gsome js Δ)) with
 |ok w=>rw [e] at q;exact q.elim
 |ex x=>rw [e] at q;exact q σ G' H O' E' (sg.trans s')
 |no=>rw [e] at q;exact q.elim
theorem cc_7{H0:HB}{G0 G G1 H:Hp}{σ:Sg}{Δ:SE}{O:OS}{D:Ends}{js:List Nat}{Q:Bool→Hp→Prop}(E:Ev K H0 G0 G H σ Δ O)(sg:Same G1 G)(q:Fin K EX H0 G0 G1 D (exT js p Δ)):tDt K EX p σ H Q:=by
 obtain⟨G',O',s',E'⟩:=E.gsome js;refine⟨G',vsh (gsome js Δ),E'.st.gh,E'.gsh, ?_⟩;unfold exT at q;cases e:p (vsh (gsome js Δ)) with
 |ok w=>rw [e] at q;exact q.elim
 |ex x=>rw [e] at q;exact q σ G' H O' E' (sg.trans s')
 |no=>rw [e] at q;exact q.elim
def sRet(js:List Nat)(f:FE):FS:=fun Δ=>match f (vall Δ) with
 | .ok w=> .rt w
 | .ex _=>exG js f Δ
 | .no=> .no
theorem b_3(js:List Nat)(he:ED X EX e f):SD X EX (.Return (some e) pos) (sRet js f):=
 PS.imp (ca_0 he) fun D σ H ⟨H0,G0,G,Δ,O,E,q⟩=>by
  unfold sRet at q;cases e1:f (vall Δ) with
  |ok w=>
   rw [e1] at q;exact⟨allG G H O,vall Δ,E.aH,E.gall,by rw [e1];exact WP.mono E.aStep q⟩
  |ex x=>rw [e1] at q;exact bf_1 E (Same.refl _) q
  |no=>rw [e1] at q;exact q.elim
def sRetV(i:Nat):FS:=fun Δ=>match Δ[i]? with
 |some (.sh d)=> .rt (.sh d)
 |some (.ow d)=> .rt (.ow d)
 |some (.tr t)=> .rt (.tr t)
 |_=> .no
theorem aa_7(i:Nat){x:Str}{pos pos':Pos}(hN:X.N[i]? =some x:=by rfl)(hv:Vis X.env.scope x:=by first|exact Or.inl rfl|exact Or.inr (Or.inl rfl)|exact Or.inr (Or.inr rfl))(hd:(x ==("__debug__" :Str))=false:=by decide)
  (hcd:(x ==("__classdict__" :Str))=false:=by decide):SD X EX (.Return (some (.Name x pos)) pos') (sRetV i):=
 PS.imp (ca_0 (o_7 hN hv hd hcd)) fun D σ H ⟨H0,G0,G,Δ,O,E,q⟩=>by
  unfold sRetV at q
  split at q
  ·rename_i d e;obtain⟨v,e1,r⟩:=E.sh i d e;exact⟨v,e1,(WP.mono (w:= .sh d) (Q:=D.rt) E.st q).use E.st.gh r⟩
  ·rename_i d e;obtain⟨v,e1,t⟩:=E.ow i _ _ e rfl;exact⟨v,e1,q v (O i) G H E.st (fun a ha=>let⟨h1,h2,h3⟩:=E.out i a ha;⟨h2,h1,h3⟩) t⟩
  ·rename_i d e;obtain⟨v,e1,t⟩:=E.ow i _ _ e rfl;exact⟨v,e1,q v (O i) G H E.st (fun a ha=>let⟨h1,h2,h3⟩:=E.out i a ha;⟨h2,h1,h3⟩) t⟩
  ·exact q.elim
def sPut(i:Nat)(Δ:SE):R W→Fl
 | .ok (.sh d)=> .nx (Δ.set i (.sh d))
 | .ok (.ow d)=> .nx (Δ.set i (.ow d))
 | .ok (.tr t)=> .nx (Δ.set i (.tr t))
 | .ex x=> .ex x Δ
 | .no=> .no
def sSet(i:Nat)(js:List Nat)(f:FE):FS:=fun Δ=>match f (vsh Δ) with
 | .ok (.sh d)=> .nx (Δ.set i (.sh d))
 | .ok (.ow d)=> .nx (Δ.set i (.ow d))
 | .ok (.tr t)=> .nx (Δ.set i (.tr t))
 | .ex x=> .ex x Δ
 | .no=>match f (vall Δ) with
  | .ex _=>sPut i (gsome js Δ) (f (vsh (gsome js Δ)))
  | .no=> .no
  | .ok w=>if flatD w.d=true then .nx (Δ.set i (.sh w.d)) else sPut i (gsome js Δ) (f (vsh (gsome js Δ)))
theorem al_8{H0:HB}{G0 G G1 H:Hp}{σ:Sg}{Δ:SE}{O:OS}{D:Ends}{i:Nat}(E:Ev K H0 G0 G H σ Δ O)(sg:Same G1 G)
  (q:Fin K EX H0 G0 G1 D (sPut i Δ (f (vsh Δ)))):tAsg (tD K EX f) (bp_3 i) D σ H:=by
 refine⟨G,vsh Δ,E.st.gh,E.gsh, ?_⟩;unfold sPut at q;cases e1:f (vsh Δ) with
 |ok w=>
  rw [e1] at q;cases w with
  |sh d=>exact fun v G' H' st r=>q _ G' H' O ((E.grow st).put r) (sg.trans st.gg)
  |ow d=>
   intro v S G' H' st fr t;exact q _ G' H' _ ((E.grow st).putO (fun a ha=>⟨E.st.hh.free (fr a ha).1,(fr a ha).2⟩) rfl (fun _ z=>by cases z) t fun j a hj hs=>(E.out j a hj).2.2 (fr a hs).1) (sg.trans st.gg)
  |tr d=>
   intro v S G' H' st fr t;exact q _ G' H' _ ((E.grow st).putO (fun a ha=>⟨E.st.hh.free (fr a ha).1,(fr a ha).2⟩) rfl (fun _ z=>by cases z) t fun j a hj hs=>(E.out j a hj).2.2 (fr a hs).1) (sg.trans st.gg)
 |ex x=>rw [e1] at q;exact q σ G H O E sg
 |no=>rw [e1] at q;exact q
theorem cc_8{D:Ends}{σ:Sg}{i:Nat}{js:List Nat}(q:tS K EX (sSet i js f) D σ H):tAsg (tD K EX f) (bp_3 i) D σ H:=by
 obtain⟨H0,G0,G,Δ,O,E,q⟩:=q;unfold sSet at q;cases e1:f (vsh Δ) with
 |ok w=>
  rw [e1] at q;refine al_8 E (Same.refl _) ?_;unfold sPut;rw [e1];cases w <;> exact q
 |ex x=>
  rw [e1] at q;refine al_8 E (Same.refl _) ?_;unfold sPut;rw [e1];exact q
 |no=>
  rw [e1] at q;cases e2:f (vall Δ) with
  |ok w=>
   simp only [e2] at q
   split at q
   ·rename_i fl;refine⟨allG G H O,vall Δ,E.aH,E.gall, ?_⟩;rw [e2];exact WP.intro fun v G' H' st r=>q _ G H' O ((E.keep st.hh).put (r.ofFl fl)) (Same.refl _)
   ·obtain⟨G',O',sg,E'⟩:=E.gsome js;exact al_8 E' sg q
  |ex x=>
   simp only [e2] at q;obtain⟨G',O',sg,E'⟩:=E.gsome js;exact al_8 E' sg q
  |no=>simp only [e2] at q;exact q.elim
theorem b_2{i:Nat}(js:List Nat){x:Str}{pos':Pos}(he:ED X EX e f)(hN:X.N.Nodup)(hi:X.N[i]? =some x:=by rfl)(hx:Loc X.env.scope x:=by first|exact Or.inl rfl|exact Or.inr rfl)(hs:swapsWith e (some (.Name x pos')) pos.line X.env=pure false:=by rfl)
  (hf:X.fn x=true∨X.env.scope.names.lookup x=some .local:=by first|exact .inl rfl|exact .inr rfl|assumption):SD X EX (.Assign [.Name x pos'] e pos) (sSet i js f):=
 PS.imp (ca_2 hN hi hx he hs hf) fun D σ H q=>cc_8 q
def sExpr(js:List Nat)(f:FE):FS:=fun Δ=>match f (vall Δ) with
 | .ok _=> .nx Δ
 | .ex _=>exG js f Δ
 | .no=> .no
theorem aa_8(js:List Nat)(he:ED X EX e f)(hs:swapsWith e none pos.line X.env=pure false:=by rfl):SD X EX (.Expr e pos) (sExpr js f):=
 PS.imp (aw_8 he hs) fun D σ H ⟨H0,G0,G,Δ,O,E,q⟩=>by
  unfold sExpr at q;cases e1:f (vall Δ) with
  |ok w=>
   rw [e1] at q;exact⟨allG G H O,vall Δ,E.aH,E.gall,by rw [e1];exact WP.intro fun v G' H' st r=>q σ G H' O (E.keep st.hh) (Same.refl _)⟩
  |ex x=>rw [e1] at q;exact bf_1 E (Same.refl _) q
  |no=>rw [e1] at q;exact q.elim
def sIf(js:List Nat)(p:FT)(g h:FS):FS:=fun Δ=>match p (vall Δ) with
 | .ok b=>if b=true then g Δ else h Δ
 | .ex _=>exT js p Δ
 | .no=> .no
theorem au_7{H0:HB}{G0 G H:Hp}{σ:Sg}{Δ:SE}{O:OS}{D:Ends}{k:Bool→Fl}{P:Bool→Hp→Prop}{js:List Nat}(E:Ev K H0 G0 G H σ Δ O)
  {G1:Hp} (sg:Same G1 G) (q:Fin K EX H0 G0 G1 D (match p (vall Δ) with| .ok b=>k b| .ex _=>exT js p Δ| .no=> .no)) (i:∀b H',p (vall Δ)= .ok b→Ev K H0 G0 G H' σ Δ O→Fin K EX H0 G0 G1 D (k b)→P b H'):tDt K EX p σ H P:=by
 cases e1:p (vall Δ) with
 |ok b=>rw [e1] at q;exact⟨allG G H O,vall Δ,E.aH,E.gall,by rw [e1];exact fun G' H' st=>i b H' e1 (E.keep st.hh) q⟩
 |ex x=>rw [e1] at q;exact cc_7 E sg q
 |no=>rw [e1] at q;exact q.elim
theorem d_2(js:List Nat){c:Expr}{as bs:List Stmt}(hc:TD X EX c p)(ha:BD X EX as g)(hb:BD X EX bs h):SD X EX (.If c as bs pos) (sIf js p g h):=
 PS.imp (cy_7 hc ha hb) fun D σ H ⟨H0,G0,G,Δ,O,E,q⟩=>au_7 (k:=fun b=>if b=true then g Δ else h Δ) E (Same.refl _) q fun b H' _ E' q'=>by
  cases b with
  |true=>rw [if_pos rfl];exact⟨H0,G0,G,Δ,O,E',q'⟩
  |false=>rw [if_neg Bool.false_ne_true];exact⟨H0,G0,G,Δ,O,E',q'⟩
def h_2(js:List Nat)(p:FT)(g:FS):Nat→FS
 |0=>fun _=> .no
 |n + 1=>fun Δ=>match p (vall Δ) with
  | .ok b=>if b=true then(match g Δ with
    | .nx Δ'=>h_2 js p g n Δ'
    | .ct Δ'=>h_2 js p g n Δ'
    | .bk Δ'=> .nx Δ'
    |r=>r) else .nx Δ
  | .ex _=>exT js p Δ
  | .no=> .no
theorem ao_1(js:List Nat)(n:Nat){c:Expr}{body:List Stmt}(hp:PassesOwn (model X.prog X.w) X.A X.env X.xe)(hc:TD X EX c p)(hb:BD X EX body g):SD X EX (.While c body [] pos) (h_2 js p g n):=
 PS.imp (ca_3 hp hc hb) fun D σ H ⟨H0,G0,G1,Δ,O,E,q⟩=>by
  refine⟨fun m σ H=>∃G Δ O,Ev X.K H0 G0 G H σ Δ O∧Same G1 G∧Fin X.K EX H0 G0 G1 D (h_2 js p g m Δ),⟨n,G1,Δ,O,E,Same.refl _,q⟩, ?_⟩
  rintro m σ H ⟨G,Δ,O,E,sg,q⟩
  cases m with
  |zero=>exact False.elim q
  |succ m=>
   refine au_7 (k:=fun b=>if b=true then(match g Δ with| .nx Δ'=>h_2 js p g m Δ'| .ct Δ'=>h_2 js p g m Δ'| .bk Δ'=> .nx Δ'|r=>r) else .nx Δ) E sg q fun b H' _ E' q'=> ?_;cases b with
   |false=>rw [if_neg Bool.false_ne_true];exact q' σ G H' O E' sg
   |true=>
    rw [if_pos rfl];rw [if_pos rfl] at q';refine⟨fun σ' H'=>∃G Δ O,Ev X.K H0 G0 G H' σ' Δ O∧Same G1 G∧Fin X.K EX H0 G0 G1 D (h_2 js p g m Δ),fun σ' H' w=>⟨m,Nat.lt_succ_self _,w⟩,H0,G0,G,Δ,O,E', ?_⟩;cases e1:g Δ with
    |nx Δ'=>rw [e1] at q';exact fun σ' G' H' O' E2 s2=>⟨G',Δ',O',E2,sg.trans s2,q'⟩
    |ct Δ'=>rw [e1] at q';exact fun σ' G' H' O' E2 s2=>⟨G',Δ',O',E2,sg.trans s2,q'⟩
    |bk Δ'=>rw [e1] at q';exact Fin.mono (r:= .nx Δ') sg q'
    |rt w=>rw [e1] at q';exact q'
    |ex x Δ'=>rw [e1] at q';exact Fin.mono (r:= .ex x Δ') sg q'
    |no=>rw [e1] at q';exact q'
end
def start3(n:Nat)(ds:List D):SE:=ds.map Sl.sh ++ List.replicate (n - ds.length) .no
def bodyD(n:Nat)(g:FS)(ds:List D):R W:=match g (start3 n ds) with
 | .nx _=> .ok (.sh .non)
 | .rt w=> .ok w
 | .ex x _=> .ex x
 |_=> .no
theorem bf_2{G H:Hp}{ds:List D}{N:List Str}(g:Same G H)(r:HasL K G vs ds):Ev K ⟨H,fun _=>0⟩ G G H (m_5 N vs) (start3 N.length ds) (fun _ _=>False):=by
 refine⟨Step.refl g, ?_,fun i d e=> ?_,fun i z d e zo=> ?_,fun _ _ ha=>ha.elim,fun _ _ _ ha=>ha.elim,fun i d e=> ?_,fun i d e=> ?_⟩
 ·unfold m_5 start3;simp only [List.length_append,List.length_map,List.length_replicate,r.length]
 ·unfold start3 at e
  by_cases hi:i < ds.length
  ·rw [List.getElem?_append_left (by rw [List.length_map];exact hi),List.getElem?_map] at e;cases q:ds[i]? with
   |none=>rw [q] at e;cases e
   |some d'=>
    rw [q] at e;cases e;obtain⟨v,e1,h⟩:=r.get q;refine⟨v, ?_,h⟩;unfold m_5;rw [List.getElem?_append_left (by rw [List.length_map,r.length];exact hi),List.getElem?_map,e1];rfl
  ·rw [List.getElem?_append_right (by rw [List.length_map];omega),List.getElem?_replicate] at e
   split at e <;> cases e
 ·exfalso;unfold start3 at e
  by_cases hi:i < ds.length
  ·rw [List.getElem?_append_left (by rw [List.length_map];exact hi),List.getElem?_map] at e;cases q:ds[i]? with
   |none=>rw [q] at e;cases e
   |some d'=>rw [q] at e;cases e;cases zo
  ·rw [List.getElem?_append_right (by rw [List.length_map];omega),List.getElem?_replicate] at e
   split at e
   ·cases e;cases zo
   ·cases e
 ·exfalso;unfold start3 at e
  by_cases hi:i < ds.length
  ·rw [List.getElem?_append_left (by rw [List.length_map];exact hi),List.getElem?_map] at e;cases q:ds[i]? with
   |none=>rw [q] at e;cases e
   |some d'=>rw [q] at e;cases e
  ·rw [List.getElem?_append_right (by rw [List.length_map];omega),List.getElem?_replicate] at e
   split at e <;> cases e
 ·exfalso;unfold start3 at e
  by_cases hi:i < ds.length
  ·rw [List.getElem?_append_left (by rw [List.length_map];exact hi),List.getElem?_map] at e;cases q:ds[i]? with
   |none=>rw [q] at e;cases e
   |some d'=>rw [q] at e;cases e
  ·rw [List.getElem?_append_right (by rw [List.length_map];omega),List.getElem?_replicate] at e
   split at e <;> cases e
theorem fn_D{c:Bool}{w:World}{x qual:Str}{st:Stmt}{f:Addr}{N ps:List Str}{k:Nat}{g:FS}(F:Fun K x qual st f fd)(S:FnScope N ps (b_0 st))
  (zj:∀(zn:Value) (A:Around) (outer:List Env) (s:Shared) (H:Hp) (E:XK),RoomC c k (A.deeper (envOfC qual (b_0 st) s.heap.objs.size f zn))→
   BD (cxN c P w K mg base N qual (b_0 st) f zn A outer s H E) (fun _=>EXof K E) (e_2 st) g):FnX P w K mg base c (k + 1) f fd ps (spX K ps.length (bodyD N.length g)):=by
 refine Fun.okX F S (fun vs H Q E h=>h.1) fun zn A outer s H vs Q E hr h=>⟨_,zj zn A outer s H E hr, ?_⟩;obtain⟨hl,G,ds,g0,r,o⟩:=h;refine⟨⟨H,fun _=>0⟩,G,G,_,_,bf_2 g0 r, ?_⟩;unfold bodyD at o;cases e:g (start3 N.length ds) with
 |nx Δ=>rw [e] at o;exact fun σ G' H' O E' _=>(WP.mono (w:= .sh .non) (Q:=Q) E'.st o).use E'.st.gh .non
 |rt w=>rw [e] at o;exact o
 |ex x Δ=>rw [e] at o;exact fun σ G' H' O E' _=>(EXof K E).mono _ _ _ _ _ E'.st o
 |bk Δ=>rw [e] at o;exact o.elim
 |ct Δ=>rw [e] at o;exact o.elim
 |no=>rw [e] at o;exact o
theorem c_7{c:Bool}{w:World}{x:Str}{st:Stmt}{f:Addr}{ps:List Str}{k:Nat}{Fn:List D→R W}(F:Fun K x x st f fd)(hm:mg x=some (.ref f))(hb:Binds K fd ps [])
  (ok:FnX P w K mg base c k f fd ps (spX K ps.length Fn)):FnD P w K mg base c x k ps Fn:=⟨f,fd,ok,hm,F.kp,hb⟩
def cc_9(x:Str):It:=⟨fun i _=>i < x.cps.size,fun i H v H'=>H'=H∧∃c,x.cps[i]? =some c∧v= .str ⟨#[c]⟩,fun i _=>i=x.cps.size⟩
theorem bm_5{w:World}{tg:Expr}{it:Addr}{n:Nat}{Pv:Nat→Value→Prop}{St:Nat→Heap→Prop}{J:It}
  (W:∀A':Around,A'.handled=none→Walks P w A' it [it] [it] n Pv St)
  (az:∀i h,St i h→∃o nm vs,h.get? it=some o∧o.cls= .type nm∧o.data= .fields vs∧ ["enumerate", "zip", "dict_itemiterator", "dict_reverseitemiterator", "odict_iterator", "itertools.zip_longest", "itertools.pairwise"].contains nm=false)
  (cj:∀(i:Nat) (h h':Heap),St i h→(∀b∈ [it],∀o,h.get? b=some o→h'.get? b=some o)→St i h') (cb:∀(A:Around) (i:Nat) (s:Shared) (Q E:Value→Shared→Prop),St i s.heap→Q (.ref it) s→wpAny (model P w) A (pyIter (.ref it)) Q E s)
  (hgo:∀i H,J.go i H→i < n) (hst:∀i H,J.stop i H→i=n) (hy:∀i H u,Pv i u→∃x,RelV x u∧J.yld i H x H):Turn P w K tg J [it] it St where
 mem:=by simp
 obj:=fun i h st b hb=>by
  have e:b=it:=by simpa using hb
  subst e;obtain⟨o,nm,vs,e,c,d,_⟩:=az i h st;exact⟨o,e,fun v z=>by rw [d] at z;cases z⟩
 keep:=cj
 item:=by
  intro X hP hw hK hc i zd s σ H E I hf st hg;subst hP hw hK;obtain⟨f0,f1,f2,f3,f4,f5⟩:=hf it (by simp);refine(W X.A (I.ok.hd hc)).item i s _ _ (hgo i H hg) st fun v h' tk hv st' kk=> ?_;have I1:Inv X zd σ H {s with heap:=h',toks:=tk}:=I.turned (fun b o hb e=>kk b o (by simpa using hb) e) f0 f1 f3 f4 f5;obtain⟨x,rx,yx⟩:=hy i H v hv;obtain⟨o,nm,vs,e,c,d,hn⟩:=az (i + 1) h' st';exact⟨v,rfl,bd_7 (s:={s with heap:=h',toks:=tk}) e c d hn ⟨x,H,I1,rx,yx,st',fun b hb=>(hf b hb).1⟩⟩
 done:=by
  intro X hP hw hK hc i zd s σ H E I hf st hg;subst hP hw hK;obtain⟨f0,f1,f2,f3,f4,f5⟩:=hf it (by simp);obtain rfl:=hst i H hg;exact(W X.A (I.ok.hd hc)).done s _ _ st fun h' tk kk=>⟨rfl,I.turned (fun b o hb e=>kk b o (by simpa using hb) e) f0 f1 f3 f4 f5⟩
 self:=cb
def ItD(K:Frag)(G1:Hp)(J:It)(ds:List D):Prop:=∀G H,Same G1 G→Same G H→∀i,
 (∀d,ds[i]? =some d→J.go i H∧∀x H',J.yld i H x H'→∃G',Step G H G' H'∧Has K G' x d)∧(ds.length=i→J.stop i H)
abbrev FI:=DE→R (List D)
def tI(K:Frag)(EX:EXS)(fi:FI):TI:=fun σ H Q=>∃G δ,Same G H∧HasS K G σ δ∧match fi δ with
 | .ok ds=>∀J G' H',Step G H G' H'→ItD K G' J ds→Q J H'
 | .ex x=>(EX σ).p x G H
 | .no=>False
abbrev ID(X:Cx)(EX:EXS)(tg iter:Expr)(fi:FI):Prop:=PI X tg iter (tI X.K EX fi)
theorem PI.imp{tg e:Expr}{t t':TI}(h:PI X tg e t)(i:∀σ H Q,t' σ H Q→t σ H Q):PI X tg e t':=fun zd s σ H Q I q=>h zd s σ H Q I (i σ H Q q)
section
variable{X:Cx}{EX:EXS}{tg e a b:Expr}{f:FE}{fa:FA}{p pos:Pos}
theorem tDa.seqI{G H:Hp}{σ:Sg}{δ:DE}{k:List D→R (List D)}{Q:It→Hp→Prop}{P:List V→Hp→Prop}(g:Same G H)(s:HasS K G σ δ)
  (h:match(fa δ).bind k with| .ok ds=>∀J G' H',Step G H G' H'→ItD K G' J ds→Q J H'| .ex x=>(EX σ).p x G H| .no=>False)
  (i:∀ds vs G' H',Step G H G' H'→HasL K G' vs ds→(match k ds with| .ok ds=>∀J G2 H2,Step G' H' G2 H2→ItD K G2 J ds→Q J H2| .ex x=>(EX σ).p x G' H'| .no=>False)→P vs H'):tDa K EX fa σ H P:=by
 refine⟨G,δ,g,s, ?_⟩;cases e:fa δ with
 |ok ds=>
  rw [e] at h;simp only [R.bind_ok] at h;refine fun vs G' H' st r=>i ds vs G' H' st r ?_;cases e2:k ds with
  |ok ds'=>rw [e2] at h;exact fun J G2 H2 st2 it=>h J G2 H2 (st.trans st2) it
  |ex x=>rw [e2] at h;exact(EX σ).mono _ _ _ _ _ st h
  |no=>rw [e2] at h;exact h
 |ex x=>rw [e] at h;exact h
 |no=>rw [e] at h;exact h
def d_8(lo:Int)(n:Nat):List D:=(List.range n).map fun(k:Nat)=>D.int (lo + (k:Int))
theorem bw_1{lo:Int}{n i:Nat}{d:D}(h:(d_8 lo n)[i]? =some d):i < n∧d= .int (lo + (i:Int)):=by
 unfold d_8 at h;rw [List.getElem?_map] at h
 by_cases hi:i < n
 ·rw [List.getElem?_range hi] at h;cases h;exact⟨hi,rfl⟩
 ·rw [List.getElem?_eq_none (by rw [List.length_range];omega)] at h;cases h
theorem p_0(lo:Int)(n:Nat):(d_8 lo n).length=n:=by unfold d_8;rw [List.length_map,List.length_range]
theorem bw_2{G:Hp}(lo:Int)(n:Nat):ItD K G (Itr lo n) (d_8 lo n):=fun G' H _ g i=>by
 refine⟨fun d e=> ?_,fun e=> ?_⟩
 ·obtain⟨hi,rfl⟩:=bw_1 e;refine⟨hi,fun x H' y=> ?_⟩;obtain⟨e1,e2⟩:=y;subst e1 e2;exact⟨G',Step.refl g, .int _⟩
 ·rw [p_0] at e;exact Nat.le_of_eq e
def p_1:List D→R (List D)
 | [.int j]=>if j.natAbs < 4611686018427387904 then .ok (d_8 0 j.toNat) else .no
 |_=> .no
def iArgs(k:List D→R (List D))(fa:FA):FI:=fun δ=>(fa δ).bind k
theorem p_2(hm:X.mg "range" =none)(ha:AD X EX [a] fa)(hg:Gl X "range" :=by rfl)(hs:starEach [a] X.env= [(false,eval a X.env)]:=by rfl):ID X EX tg (.Call (.Name "range" p) [a] [] pos) (iArgs p_1 fa):=
 PI.imp (bu_7 hg hm ha hs) fun σ H Q ⟨G,δ,g0,s0,o⟩=>tDa.seqI g0 s0 o fun ds vs G' H' st r o'=>by
  cases r with
  |nil=>exact False.elim o'
  |cons h t=>
   cases t with
   |cons _ _=>cases h <;> exact False.elim o'
   |nil=>
    cases h with
    |int j=>
     by_cases hc:j.natAbs < 4611686018427387904
     ·rw [show p_1 [.int j]= .ok (d_8 0 j.toNat) from if_pos hc] at o';exact⟨j,rfl,by omega,by omega,o' _ G' H' (Step.refl st.gh) (bw_2 0 j.toNat)⟩
     ·rw [show p_1 [.int j]= .no from if_neg hc] at o';exact o'.elim
    |_=>exact False.elim o'
def q_5(x:Str):List D:=x.cps.toList.map fun c=> .str ⟨#[c]⟩
def itemsD:D→R (List D)
 | .lst ds=> .ok ds
 | .tup ds=> .ok ds
 | .str x=> .ok (q_5 x)
 |_=> .no
def iOf(f:FE):FI:=fun δ=>(f δ).bind fun w=>itemsD w.d
def iAny(K:Frag)(tl:TE):TI:=fun σ H Q=>tl σ H fun x H1=>
 (∃a,x= .ref a∧(∃xs,SqL K H1 a xs)∧Q (Itl K a) H1)∨(∃a,x= .ref a∧(∃xs,SqT K H1 a xs)∧Q (Itt K a) H1)∨(∃z,x= .str z∧Q (cc_9 z) H1)
theorem cu_8{l:Expr}{tl:TE}(hl:PE X l tl):PI X tg l (iAny X.K tl):=by
 intro zd s σ H Q I h;refine thn (hl zd s σ H _ I h) fun v s1 ⟨x,H1,I1,r1,q1⟩=> ?_;rcases q1 with⟨a,e,⟨xs,hq⟩,q⟩|⟨a,e,⟨xs,hq⟩,q⟩|⟨z,e,q⟩
 ·subst e;cases r1;obtain⟨its,rv,p,hz⟩:=I1.list hq;refine wpAny_pyIter_list p.isList ?_;refine⟨s1.heap.objs.size, [s1.heap.objs.size],_,_,H1,rfl,I1.kept (t':=s1.toks) fun b o e=>Heap.get?_push_of_some _ e,aa_3 a _,⟨_,Heap.get?_push_size _ rfl,rfl,rfl⟩,fun b hb=> ?_,q⟩;have e:b=s1.heap.objs.size:=by simpa using hb
  subst e;exact I1.fpOk (Nat.le_refl _) (I1.hok.fresh (Nat.le_refl _))
 ·subst e;cases r1;obtain⟨its,rv,p,hz⟩:=I1.tuple hq;refine wpAny_pyIter_tuple (show s1.heap.IsTuple a its.toArray from p) ?_;refine⟨s1.heap.objs.size, [s1.heap.objs.size],_,_,H1,rfl,I1.kept (t':=s1.toks) fun b o e=>Heap.get?_push_of_some _ e,bl_1 a _,⟨_,Heap.get?_push_size _ rfl,rfl,rfl⟩,fun b hb=> ?_,q⟩;have e:b=s1.heap.objs.size:=by simpa using hb
  subst e;exact I1.fpOk (Nat.le_refl _) (I1.hok.fresh (Nat.le_refl _))
 ·subst e;obtain⟨t,rfl⟩:=r1;have fin:∀(nm:String) (St:Nat→Heap→Prop),(∀i h,St i h↔h.IsStrIter s1.heap.objs.size nm z t i)→(∀A':Around,A'.handled=none→Walks X.prog X.w A' s1.heap.objs.size [s1.heap.objs.size] [s1.heap.objs.size] z.cps.size (SignAt z) St)→
    ["enumerate", "zip", "dict_itemiterator", "dict_reverseitemiterator", "odict_iterator", "itertools.zip_longest", "itertools.pairwise"].contains nm=false→
    (∀(A:Around) (i:Nat) (s:Shared) (Q E:Value→Shared→Prop),s.heap.IsStrIter s1.heap.objs.size nm z t i→Q (.ref s1.heap.objs.size) s→wpAny (model X.prog X.w) A (pyIter (.ref s1.heap.objs.size)) Q E s)→
    PIE X zd σ tg Q (.ref s1.heap.objs.size) {s1 with heap:=s1.heap.push {cls:= .type nm,data:= .fields #[.str z t, .int 0 0]}}:=by
   intro nm St hS W hn hslf;refine⟨s1.heap.objs.size, [s1.heap.objs.size],St,cc_9 z,H1,rfl,I1.kept (t':=s1.toks) fun b o e=>Heap.get?_push_of_some _ e,
    bm_5 W (fun i h st=> ?_) (fun i h h' st k=> ?_) (fun A i s Q E st h=>hslf A i s Q E ((hS _ _).mp st) h) (fun i H g=>g) (fun i H g=> ?_) (fun i H u hu=> ?_),(hS _ _).mpr ⟨_,Heap.get?_push_size _ rfl,rfl,rfl⟩,fun b hb=> ?_,q⟩
   ·obtain⟨o,ho,hc,hd⟩:=(hS _ _).mp st;exact⟨o,nm,_,ho,hc,hd,hn⟩
   ·obtain⟨o,ho,r⟩:=(hS _ _).mp st;exact(hS _ _).mpr ⟨o,k _ (by simp) o ho,r⟩
   ·exact g
   ·obtain⟨c,u',e1,e2⟩:=hu;subst e2;exact⟨.str ⟨#[c]⟩,⟨u',rfl⟩,rfl,c,e1,rfl⟩
   ·have e:b=s1.heap.objs.size:=by simpa using hb
    subst e;exact I1.fpOk (Nat.le_refl _) (I1.hok.fresh (Nat.le_refl _))
  cases ha:z.cps.all (· < 128)
  ·exact wpAny_pyIter_wide ha (fin "str_iterator" _ (fun _ _=>Iff.rfl) (fun A' hA=>Walks.strWide hA _ z t) (by decide) fun A i s Q E st h=>wpAny_pyIter_striter_wide st h)
  ·exact wpAny_pyIter_ascii ha (fin "str_ascii_iterator" _ (fun _ _=>Iff.rfl) (fun A' hA=>Walks.strAscii hA _ z t) (by decide) fun A i s Q E st h=>wpAny_pyIter_striter_ascii st h)
theorem bf_3{G:Hp}{a:Addr}{ds:List D}(h:SqL K G a vs)(r:HasL K G vs ds):ItD K G (Itl K a) ds:=fun G' H g1 g i=>by
 refine⟨fun d e=> ?_,fun e=> ?_⟩
 ·obtain⟨v,e1,hv⟩:=r.get e;refine⟨⟨vs,v,(g1.trans g).seq h,e1⟩,fun x H' y=> ?_⟩;obtain⟨e2,y⟩:=y;subst e2;have e3:=y vs ((g1.trans g).seq h);rw [e1] at e3;cases e3;exact⟨G',Step.refl g,hv.mono g1⟩
 ·exact⟨vs,(g1.trans g).seq h,by rw [r.length];exact Nat.le_of_eq e⟩
theorem cl_2{G:Hp}{a:Addr}{ds:List D}(h:SqT K G a vs)(r:HasL K G vs ds):ItD K G (Itt K a) ds:=fun G' H g1 g i=>by
 refine⟨fun d e=> ?_,fun e=> ?_⟩
 ·obtain⟨v,e1,hv⟩:=r.get e;refine⟨⟨vs,v,Same.tupS (g1.trans g) h,e1⟩,fun x H' y=> ?_⟩;obtain⟨e2,y⟩:=y;subst e2;have e3:=y vs (Same.tupS (g1.trans g) h);rw [e1] at e3;cases e3;exact⟨G',Step.refl g,hv.mono g1⟩
 ·exact⟨vs,Same.tupS (g1.trans g) h,by rw [r.length];exact Nat.le_of_eq e⟩
theorem cl_3{G:Hp}(z:Str):ItD K G (cc_9 z) (q_5 z):=fun G' H g1 g i=>by
 refine⟨fun d e=> ?_,fun e=> ?_⟩
 ·unfold q_5 at e;rw [List.getElem?_map] at e;cases q:z.cps.toList[i]? with
  |none=>rw [q] at e;cases e
  |some c=>
   rw [q] at e;cases e;have hi:i < z.cps.size:=by
    have:=(List.getElem?_eq_some_iff.mp q).1;simpa using this
   refine⟨hi,fun x H' y=> ?_⟩;obtain⟨e2,c',e3,e4⟩:=y;subst e2 e4;have:z.cps.toList[i]? =some c':=by simpa using e3
   rw [q] at this;cases this;exact⟨G',Step.refl g, .str _⟩
 ·unfold q_5 at e;rw [List.length_map] at e;show i=z.cps.size;simp at e;omega
theorem w_9(he:ED X EX e f):ID X EX tg e (iOf f):=
 PI.imp (cu_8 he) fun σ H Q ⟨G,δ,g0,s0,o⟩=>by
  refine⟨G,δ,g0,s0, ?_⟩;unfold iOf at o;cases e1:f δ with
  |ok w=>
   rw [e1] at o;simp only [R.bind_ok] at o;refine WP.intro fun v G' H' st r=> ?_;revert r o;cases w.d with
   |lst ds=>
    intro o r;cases r with
    |lst h r=>exact .inl ⟨_,rfl,⟨_,st.gh.seq h⟩,o _ G' H' st (bf_3 h r)⟩
   |tup ds=>
    intro o r;cases r with
    |tup h r=>exact .inr (.inl ⟨_,rfl,⟨_,Same.tupS st.gh h⟩,o _ G' H' st (cl_2 h r)⟩)
   |str z=>
    intro o r;cases r;exact .inr (.inr ⟨z,rfl,o _ G' H' st (cl_3 z)⟩)
   |_=>intro o _;exact False.elim o
  |ex x=>rw [e1] at o;exact o
  |no=>rw [e1] at o;exact o
end
abbrev FG:=D→SE→R SE
def tG(K:Frag)(EX:EXS)(fg:FG):TG:=fun v σ H Q=>∃H0 G0 G Δ O d,Ev K H0 G0 G H σ Δ O∧Has K G v d∧match fg d Δ with
 | .ok Δ'=>∀σ' G' H' O',Ev K H0 G0 G' H' σ' Δ' O'→Same G G'→Q σ' H'
 | .ex _=>False
 | .no=>False
theorem PG.imp{tg:Expr}{t t':TG}(h:PG X tg t)(i:∀v σ H Q,t' v σ H Q→t v σ H Q):PG X tg t':=fun zd s σ H v u Q I r q=>h zd s σ H v u Q I r (i v σ H Q q)
abbrev GD(X:Cx)(EX:EXS)(tg:Expr)(fg:FG):Prop:=PG X tg (tG X.K EX fg)
section
variable{X:Cx}{EX:EXS}{pos:Pos}
def gV(i:Nat):FG:=fun d Δ=> .ok (Δ.set i (.sh d))
theorem v_8{i:Nat}{x:Str}(hN:X.N.Nodup)(hi:X.N[i]? =some x:=by rfl)(hx:Loc X.env.scope x:=by first|exact Or.inl rfl|exact Or.inr rfl)
  (hf:X.fn x=true∨X.env.scope.names.lookup x=some .local:=by first|exact .inl rfl|exact .inr rfl|assumption):GD X EX (.Name x pos) (gV i):=
 PG.imp (aa_2 hN hi hx hf) fun v σ H Q ⟨H0,G0,G,Δ,O,d,E,r,q⟩=>q _ G H O (E.put r) (Same.refl _)
def gV2(i j:Nat):FG:=fun d Δ=>match d with
 | .tup [a,b]=> .ok ((Δ.set i (.sh a)).set j (.sh b))
 |_=> .no
theorem ay_5{i j k:Nat}{x y:Str}{p1 p2:Pos}(hc:X.calm=true)(hN:X.N.Nodup)(hi:X.N[i]? =some x:=by rfl)(hj:X.N[j]? =some y:=by rfl)(hx:Loc X.env.scope x:=by first|exact Or.inl rfl|exact Or.inr rfl)(hy:Loc X.env.scope y:=by first|exact Or.inl rfl|exact Or.inr rfl)
  (hf:X.fn x=true∨X.env.scope.names.lookup x=some .local:=by first|exact .inl rfl|exact .inr rfl|assumption) (hf2:X.fn y=true∨X.env.scope.names.lookup y=some .local:=by first|exact .inl rfl|exact .inr rfl|assumption)
  (hn:(assignEach [.Name x p1, .Name y p2] X.env).length=2:=by rfl) (hst:(assignEach [.Name x p1, .Name y p2] X.env).findIdx? (·.1)=none:=by rfl)
  (hs:(assignEach [.Name x p1, .Name y p2] X.env).map (·.2)=assign (.Name x p1) X.env::(assignEach [.Name y p2] X.env).map (·.2):=by rfl) (hs2:(assignEach [.Name y p2] X.env).map (·.2)=assign (.Name y p2) X.env::(assignEach [] X.env).map (·.2):=by rfl):
  GD X EX (.Tuple [.Name x p1, .Name y p2] k pos) (gV2 i j):=
 PG.imp (ca_1 hc (ad_8 (aa_2 hN hi hx hf) (ad_8 (aa_2 hN hj hy hf2) bp_4 hs2) hs) hn hst) fun v σ H Q ⟨H0,G0,G,Δ,O,d,E,r,q⟩=>by
  cases r with
  |tup h r=>
   cases r with
   |nil=>exact False.elim q
   |cons r1 r=>
    cases r with
    |nil=>exact False.elim q
    |cons r2 r=>
     cases r with
     |nil=>exact⟨_,_,rfl,Same.tupS E.st.gh h,rfl,_,_,rfl,_,_,rfl,rfl,q _ G H O ((E.put r1).put r2) (Same.refl _)⟩
     |cons _ _=>exact False.elim q
  |_=>exact False.elim q
def j_1(fg:FG)(g:FS):List D→FS
 | []=>fun Δ=> .nx Δ
 |d::ds=>fun Δ=>match fg d Δ with
  | .ok Δ1=>(match g Δ1 with
   | .nx Δ2=>j_1 fg g ds Δ2
   | .ct Δ2=>j_1 fg g ds Δ2
   | .bk Δ2=> .nx Δ2
   |r=>r)
  | .ex _=> .no
  | .no=> .no
def i_8(js:List Nat)(fi:FI)(fg:FG)(g:FS):FS:=fun Δ=>match fi (vsh Δ) with
 | .ok ds=>j_1 fg g ds Δ
 | .ex x=> .ex x Δ
 | .no=>match fi (vsh (gsome js Δ)) with
  | .ok ds=>j_1 fg g ds (gsome js Δ)
  | .ex x=> .ex x (gsome js Δ)
  | .no=> .no
theorem y_0{α:Type}{l:List α}{i:Nat}(h:i < l.length):∃x,l[i]? =some x∧l.drop i=x::l.drop (i + 1):=⟨l[i],by simp [h],List.drop_eq_getElem_cons h⟩
theorem au_8{fg:FG}{g:FS}{H0:HB}{G0 G1 H1:Hp}{J:It}{ds:List D}{Δ:SE}{O:OS}{σ:Sg}{D:Ends}(E:Ev K H0 G0 G1 H1 σ Δ O)(it:ItD K G1 J ds)(q:Fin K EX H0 G0 G1 D (j_1 fg g ds Δ)):
  ∃W:Nat→Nat→Sg→Hp→Prop,(∃m,W 0 m σ H1)∧∀i m σ H,W i m σ H→
   (J.stop i H∧D.nx σ H)∨(J.go i H∧∃N:Sg→Hp→Prop,(∀σ' H',N σ' H'→∃m',m' < m∧W (i + 1) m' σ' H')∧∀x H',J.yld i H x H'→tG K EX fg x σ H' fun σ2 H2=>tS K EX g {D with nx:=N,ct:=N,bk:=D.nx} σ2 H2):=by
 refine⟨fun i m σ H=>m=ds.length - i∧i≤ds.length∧∃G Δ O,Ev K H0 G0 G H σ Δ O∧Same G1 G∧Fin K EX H0 G0 G1 D (j_1 fg g (ds.drop i) Δ),⟨ds.length,by simp,Nat.zero_le _,G1,Δ,O,E,Same.refl _,q⟩, ?_⟩
 rintro i m σ H ⟨rfl,hi,G,Δ,O,E,sg,q⟩
 obtain⟨i1,i2⟩:=it G H sg E.st.gh i
 by_cases hlt:i < ds.length
 ·obtain⟨d,e1,e2⟩:=y_0 hlt;obtain⟨go,yl⟩:=i1 d e1;refine .inr ⟨go,fun σ' H'=>∃G Δ O,Ev K H0 G0 G H' σ' Δ O∧Same G1 G∧Fin K EX H0 G0 G1 D (j_1 fg g (ds.drop (i + 1)) Δ),fun σ' H' w=>⟨ds.length - (i + 1),by omega,rfl,hlt,w⟩,fun x H' y=> ?_⟩;obtain⟨G',st,hx⟩:=yl x H' y;rw [e2] at q;refine⟨H0,G0,G',Δ,O,d,E.grow st,hx, ?_⟩;have q':Fin K EX H0 G0 G1 D (match fg d Δ with
   | .ok Δ1=>(match g Δ1 with
    | .nx Δ2=>j_1 fg g (ds.drop (i + 1)) Δ2
    | .ct Δ2=>j_1 fg g (ds.drop (i + 1)) Δ2
    | .bk Δ2=> .nx Δ2
    |r=>r)
   | .ex _=> .no
   | .no=> .no):=q
  cases e3:fg d Δ with
  |ok Δ1=>
   rw [e3] at q';intro σ2 G2 H2 O2 E2 s2;have s12:Same G1 G2:=sg.trans (st.gg.trans s2);refine⟨H0,G0,G2,Δ1,O2,E2, ?_⟩;cases e4:g Δ1 with
   |nx Δ2=>simp only [e4] at q';exact fun σ3 G3 H3 O3 E3 s3=>⟨G3,Δ2,O3,E3,s12.trans s3,q'⟩
   |ct Δ2=>simp only [e4] at q';exact fun σ3 G3 H3 O3 E3 s3=>⟨G3,Δ2,O3,E3,s12.trans s3,q'⟩
   |bk Δ2=>simp only [e4] at q';exact fun σ3 G3 H3 O3 E3 s3=>q' σ3 G3 H3 O3 E3 (s12.trans s3)
   |rt w=>simp only [e4] at q';exact q'
   |ex x Δ2=>simp only [e4] at q';exact fun σ3 G3 H3 O3 E3 s3=>q' σ3 G3 H3 O3 E3 (s12.trans s3)
   |no=>simp only [e4] at q';exact q'
  |ex x=>rw [e3] at q';exact q'
  |no=>rw [e3] at q';exact q'
 ·have e:ds.length=i:=by omega
  refine .inl ⟨i2 e, ?_⟩;rw [List.drop_eq_nil_of_le (by omega)] at q;exact q σ G H O E sg
theorem r_4{tg iter:Expr}{body:List Stmt}{fi:FI}{fg:FG}{g:FS}(js:List Nat)(hp:PassesOwn (model X.prog X.w) X.A X.env X.xe)(hc:X.calm=true)(hi:ID X EX tg iter fi)(hg:GD X EX tg fg)(hb:BD X EX body g)
  (hs:∀x,foldedSetIterable iter X.env x=pure x:=by intro _;rfl):SD X EX (.For tg iter body [] pos) (i_8 js fi fg g):=
 PS.imp (cs_2 hp hc hi hg hb hs) fun D σ H ⟨H0,G0,G,Δ,O,E,q⟩=>by
  unfold i_8 at q;cases e1:fi (vsh Δ) with
  |ok ds=>
   rw [e1] at q;refine⟨G,vsh Δ,E.st.gh,E.gsh, ?_⟩;rw [e1];exact fun J G' H' st it=>au_8 (E.grow st) it (Fin.mono st.gg q)
  |ex x=>
   rw [e1] at q;exact⟨G,vsh Δ,E.st.gh,E.gsh,by rw [e1];exact q σ G H O E (Same.refl _)⟩
  |no=>
   rw [e1] at q;obtain⟨G1,O1,sg,E1⟩:=E.gsome js;refine⟨G1,vsh (gsome js Δ),E1.st.gh,E1.gsh, ?_⟩;cases e2:fi (vsh (gsome js Δ)) with
   |ok ds=>
    simp only [e2] at q;exact fun J G' H' st it=>au_8 (E1.grow st) it (Fin.mono (sg.trans st.gg) q)
   |ex x=>simp only [e2] at q;exact q σ G1 H O1 E1 sg
   |no=>simp only [e2] at q;exact q
def sApp(i:Nat)(f:FE):FS:=fun Δ=>match Δ[i]? with
 |some (.ow (.lst ds))=>if ds.length < 16777216 then(match f (vsh Δ) with
   | .ok w=> .nx (Δ.set i (.ow (.lst (ds ++ [w.d]))))
   | .ex x=> .ex x Δ
   | .no=>match f (vall Δ) with
    | .ok w=>if flatD w.d=true then .nx (Δ.set i (.ow (.lst (ds ++ [w.d])))) else .no
    |_=> .no) else .no
 |_=> .no
theorem ay_6{i:Nat}{x:Str}{e:Expr}{f:FE}{p1 zh zf:Pos}(he:ED X EX e f)(hN:X.N[i]? =some x:=by rfl)(hv:Vis X.env.scope x:=by first|exact Or.inl rfl|exact Or.inr (Or.inl rfl)|exact Or.inr (Or.inr rfl))(hd:(x ==("__debug__" :Str))=false:=by decide)
  (hcd:(x ==("__classdict__" :Str))=false:=by decide) (hsw:swapsWith (.Call (.Attribute (.Name x p1) "append" zh) [e] [] zf) none pos.line X.env=pure false:=by rfl)
  (aa:attributeBase (.Name x p1) "append" X.env (eval (.Name x p1) X.env)=eval (.Name x p1) X.env:=by rfl)
  (ba:((backTo zf (starEach [e] X.env)).all (fun x=> !x.1) && (backToKw zf (keywordEach [] X.env)).all (fun x=>x.1.isSome)
   && decide ([e].length + ([]:List Keyword).length + (if([]:List Keyword).isEmpty then 0 else 1) < 30))=true:=by rfl)
  (ae:(zh.endLine ==zf.line)=true:=by rfl) (hs:starEach [e] X.env=(false,eval e X.env)::starEach [] X.env:=by rfl) (ah:(backTo zf (starEach [] X.env)).any (·.1)=false:=by rfl):
  SD X EX (.Expr (.Call (.Attribute (.Name x p1) "append" zh) [e] [] zf) pos) (sApp i f):=
 PS.imp (aw_8 (cp_5 PySem.F.plainAttrs_list PySem.F.slot_list_append PySem.F.type_list_append au_2 (o_7 hN hv hd hcd) (i_7 he t_1 hs) aa ba ae hs ah) hsw) fun D σ H ⟨H0,G0,G,Δ,O,E,q⟩=>by
  unfold sApp at q
  split at q
  ·rename_i ds e1
   split at q
   ·rename_i hz;obtain⟨v0,s1,t⟩:=E.ow i _ _ e1 rfl;obtain⟨a,vs,rfl,m,hH,rl⟩:=t.list_of
    ·skip
     refine⟨.ref a,s1, .inl ⟨rfl,_,SqL.of hH⟩, ?_⟩;have fin:∀{G' H':Hp} {v:V} {d:L3.D},Ev X.K H0 G0 G' H' σ Δ O→Same G G'→H' a=some (.lst vs)→HasL X.K G' vs ds→Has X.K G' v d→Fin X.K EX H0 G0 G D (.nx (Δ.set i (.ow (.lst (ds ++ [d])))))→
       bq_0 (.ref a) [v] H' fun _ H1=>D.nx σ H1:=fun{G' H' v d} E' sg hH' r' hv' q'=>
      ⟨a,vs,v,rfl,rfl,hH',by rw [r'.length,sizeLine_eq];exact hz,q' σ G' _ _ (E'.writeL s1 m (r'.append (.cons hv' .nil))) sg⟩
     cases e2:f (vsh Δ) with
     |ok w=>
      simp only [e2] at q;refine⟨G,vsh Δ,E.st.gh,E.gsh, ?_⟩;rw [e2];exact WP.intro fun v G' H' st r=>fin (E.grow st) st.gg (st.hh _ _ hH) (rl.mono st.gg) r q
     |ex x=>
      simp only [e2] at q;exact⟨G,vsh Δ,E.st.gh,E.gsh,by rw [e2];exact q σ G H O E (Same.refl _)⟩
     |no=>
      simp only [e2] at q;refine⟨allG G H O,vall Δ,E.aH,E.gall, ?_⟩;cases e3:f (vall Δ) with
      |ok w=>
       simp only [e3] at q
       split at q
       ·rename_i fl;exact WP.intro fun v G' H' st r=>fin (E.keep st.hh) (Same.refl _) (st.hh _ _ hH) rl (r.ofFl fl) q
       ·exact q.elim
      |ex x=>simp only [e3] at q;exact q.elim
      |no=>simp only [e3] at q;exact q
   ·exact q.elim
  ·exact q.elim
end
def g_7(X:Cx)(scope:Scope)(cl:List (Str×Addr))(N':List Str)(C:Addr)(s0:Shared)(H0:Hp)(fp:List Addr)(pn:List (Addr×Obj)):Cx where
 prog:=X.prog
 w:=X.w
 K:=X.K
 mg:=X.mg
 base:=X.base
 A:=X.A
 N:=N'
 s₀:=s0
 H₀:=H0
 env:=compEnvC scope cl C X.env
 outer:=X.stack
 stack:=X.stack
 ex:=fp
 fn:=fun _=>false
 calm:=X.calm
 pn:=pn
 xe:=fun _ _=>False
abbrev FGc:=D→DE→R DE
def tGc(K:Frag)(EX:EXS)(fg:FGc):TG:=fun v σ H Q=>∃G δ d,Same G H∧HasS K G σ δ∧Has K G v d∧match fg d δ with
 | .ok δ'=>∀σ',HasS K G σ' δ'→HasS K G σ' δ→Q σ' H
 | .ex x=>(EX σ).p x G H
 | .no=>False
abbrev GC(X:Cx)(EX:EXS)(tg:Expr)(fg:FGc):Prop:=PG X tg (tGc X.K EX fg)
def CTs(X:Cx)(EX:EXS)(ifs:List Expr)(p:FT):Prop:=
 ∀(zd:List (Addr×Obj)) (s:Shared) (σ:Sg) (H:Hp) (Q:Bool→Hp→Prop),Inv X zd σ H s→tDt X.K EX p σ H Q→
  wpAny (model X.prog X.w) X.A (forIn ifs true fun c r=>if r=true then do let ok←isTrue c X.env (eval c X.env);pure (ForInStep.yield ok) else pure (ForInStep.yield r)) (TP X zd σ Q) X.xe s
section
variable{X:Cx}{EX:EXS}{pos:Pos}
def gC(i:Nat):FGc:=fun d δ=>match δ[i]? with
 |some none=> .ok (δ.set i (some d))
 |_=> .no
theorem HasS.put{G:Hp}{σ:Sg}{δ:DE}{d:D}(h:HasS K G σ δ)(r:Has K G v d)(i:Nat):HasS K G (σ.set i (some v)) (δ.set i (some d)):=by
 refine⟨by rw [List.length_set,List.length_set];exact h.len,fun j d' e=> ?_⟩;rcases h_6 e with⟨rfl,q⟩|⟨n,q⟩
 ·cases q;have hlt:i < δ.length:=by
   by_cases hh:i < δ.length
   ·exact hh
   ·rw [List.getElem?_eq_none (by rw [List.length_set];omega)] at e;cases e
  exact⟨v,by rw [List.getElem?_set_self (by rw [h.len];exact hlt)],r⟩
 ·obtain⟨v',e1,r'⟩:=h.get j d' q;exact⟨v',by rw [List.getElem?_set_ne n];exact e1,r'⟩
theorem cl_4{i:Nat}{x:Str}(hN:X.N.Nodup)(hi:X.N[i]? =some x:=by rfl)(hx:Loc X.env.scope x:=by first|exact Or.inl rfl|exact Or.inr rfl)
  (hf:X.fn x=true∨X.env.scope.names.lookup x=some .local:=by first|exact .inl rfl|exact .inr rfl|assumption):GC X EX (.Name x pos) (gC i):=
 PG.imp (aa_2 hN hi hx hf) fun v σ H Q ⟨G,δ,d,g,s,r,q⟩=>by
  unfold gC at q;cases e:δ[i]? with
  |none=>rw [e] at q;exact q.elim
  |some o=>
   rw [e] at q;cases o with
   |some _=>exact q.elim
   |none=>
    refine q _ (s.put r i) ⟨by rw [List.length_set];exact s.len,fun j d' e'=> ?_⟩;obtain⟨v',e1,r'⟩:=s.get j d' e';refine⟨v', ?_,r'⟩;rw [List.getElem?_set_ne]
    ·exact e1
    ·rintro rfl
     rw [e] at e';cases e'
theorem t_3:CTs X EX [] (fun _=> .ok true):=fun zd s σ H Q I ⟨G,δ,g,h,q⟩=>wpAny_tests_nil ⟨H,I,q G H (Step.refl g)⟩
theorem bm_6{c:Expr}{p:FT}(h:TD X EX c p):CTs X EX [c] p:=fun zd s σ H Q I q=>wpAny_tests_one (h zd s σ H Q I q)
def o_6(fg:FGc)(p:FT)(f:FE)(δ:DE):List D→R (List D)
 | []=> .ok []
 |d::ds=>(fg d δ).bind fun δ1=>(p δ1).bind fun b=>if b=true then(f δ1).bind fun w=>(o_6 fg p f δ ds).bind fun rs=> .ok (w.d::rs) else o_6 fg p f δ ds
def R.calm{α:Type}:R α→R α
 | .ok w=> .ok w
 |_=> .no
@[simp] theorem R.calm_ok{α:Type}(a:α):(R.ok a).calm= .ok a:=rfl
@[simp] theorem R.calm_ex{α:Type}(x:Xn):(R.ex x:R α).calm= .no:=rfl
@[simp] theorem R.calm_no{α:Type}:(R.no:R α).calm= .no:=rfl
def e_8(m:Nat)(fi:FI)(fg:FGc)(p:FT)(f:FE):FE:=fun δ=>((fi δ).bind fun ds=>if ds.length≤16777216 then(o_6 fg p f (δ ++ List.replicate m none) ds).bind fun rs=> .ok (.ow (.lst rs)) else .no).calm
theorem R.calm_never{α:Type}{r:R α}{x:Xn}(h:r.calm= .ex x):False:=by
 cases r <;> cases h
theorem bf_4{m:Nat}{fi:FI}{fg:FGc}{p:FT}{f:FE}{δ:DE}{x:Xn}(h:e_8 m fi fg p f δ= .ex x):False:=R.calm_never h
@[reducible] def cu_9(prog:Program)(w:World)(A:Around)(env:Env)(tg elt:Expr)(ifs:List Expr)(it acc:Value)(bad:Value→Shared→Prop)(fin more:Shared→Prop):Option Value→Shared→Prop
 |none=>fin
 |some v=>wpAny (model prog w) A (letOwnedTupleGo tg it v) (fun _=>wpAny (model prog w) A (assign tg env v) (fun _=>
   wpAny (model prog w) A (forIn ifs true fun c r=>if r=true then do let ok←isTrue c env (eval c env);pure (ForInStep.yield ok) else pure (ForInStep.yield r)) (fun ok=>
    if ok=true then wpAny (model prog w) A (eval elt env) (fun x=>wpAny (model prog w) A (call (.builtin "list.append") [acc,x]) (fun _=>more) bad) bad else more) bad) bad) bad
theorem bm_7{prog:Program}{w:World}{A:Around}{R:Result→Shared→Prop}{s:Shared}{elt target iter:Expr}{ifs:List Expr}{scope:Scope}{it acc:Value}{env:Env}(I:Nat→Shared→Prop)
  (turn:∀n s,I n s→wpAny (model prog w) A (pyNext it) (cu_9 prog w A env target elt ifs it acc (notedBy (model prog w) A env fun e=>R (.error e)) (R (.ok .next)) fun s'=>∃m,m < n∧I m s') (notedBy (model prog w) A env fun e=>R (.error e)) s)
  (n:Nat) (h:I n s):codeAny (model prog w) A (.compLoop (.ListComp elt [⟨target,iter,ifs,0⟩] scope pos) 0 it acc env) R s:=by
 refine codeAny_loop rfl I (fun k t hk=>wpAny_noted (env:=env) (m:=compTurn (.ListComp elt [⟨target,iter,ifs,0⟩] scope pos) 0 it acc env) (compTurn_list .. ▸ ?_)) n h;refine wpAny_bind (wpAny_standAt (wpAny_bind (thn (turn k t hk) ?_)))
 rintro (_|v) t1 g1
 ·exact wpAny_pure g1
 refine wpAny_bind (thn g1 fun _ t2 g2=>wpAny_bind (thn g2 fun _ t3 g3=>wpAny_bind (thn g3 ?_)))
 rintro (_|_) t4 g4
 ·exact wpAny_pure ⟨rfl,g4⟩
 ·exact wpAny_bind (wpAny_bind (thn g4 fun _ t5 g5=>wpAny_bind (thn g5 fun _ t6 g6=>wpAny_pure (wpAny_pure ⟨rfl,g6⟩))))
structure CompN(X:Cx)(scope:Scope)(cl:List (Str×Addr))(N':List Str):Prop where
 clos:closureFor scope X.env=pure cl
 cell:∀y∈scope.names,y.2≠ .cell
 kind:scope.kind= .function
 names:∀y∈scope.names,y.2= .local→scope.names.lookup y.1=some .local
 sub:∀x c,cl.lookup x=some c→X.env.cells.lookup x=some c
 has:∀x,((relabel scope X.env).names.lookup x=some .cell∨(relabel scope X.env).names.lookup x=some .free)→∃c,cl.lookup x=some c
 old:∀(i:Nat) (x:Str),N'[i]? =some x→i < X.N.length→Vis (relabel scope X.env) x→X.N[i]? =some x∧(X.env.scope.names.lookup x=some .cell∨X.env.scope.names.lookup x=some .free)∧(∃c,cl.lookup x=some c)∧((relabel scope X.env).names.lookup x=some .cell∨(relabel scope X.env).names.lookup x=some .free)
def l_3(cells:List (Str×Addr)):List (Str×NameKind)→List (Str×Addr)→List (Str×Addr)
 | [],acc=>acc
 |(x,k)::r,acc=>l_3 cells r (if k= .free then(x,(cells.lookup x).getD 0)::acc else acc)
theorem ar_5{scope:Scope}{env:Env}(h:∀p∈scope.names,p.2= .free→∃c,env.cells.lookup p.1=some c):closureFor scope env=pure (l_3 env.cells scope.names []):=by
 have all:∀(names:List (Str×NameKind)) (acc:List (Str×Addr)),(∀p∈names,p.2= .free→∃c,env.cells.lookup p.1=some c)→
   (forIn names acc fun(x:Str×NameKind) (r:List (Str×Addr))=>if(x.2 == .free)=true then do let a←cellOf env x.1;pure (ForInStep.yield ((x.1,a)::r)) else pure (ForInStep.yield r):Sem (List (Str×Addr)))=pure (l_3 env.cells names acc):=by
  intro names
  induction names with
  |nil=>intro acc _;rfl
  |cons p r ih=>
   intro acc hp;obtain⟨x,k⟩:=p;rw [List.forIn_cons]
   by_cases hk:k= .free
   ·subst hk;obtain⟨c,e⟩:=hp (x, .free) List.mem_cons_self rfl;have e1:cellOf env x=pure c:=by unfold cellOf;rw [show env.cells.lookup x=some c from e]
    simp only [beq_self_eq_true,if_true,e1,pure_bind];rw [ih _ fun q hq=>hp q (List.mem_cons_of_mem _ hq)];show _=pure (l_3 env.cells r (if NameKind.free= .free then(x,(env.cells.lookup x).getD 0)::acc else acc));rw [if_pos rfl,show env.cells.lookup x=some c from e];rfl
   ·have hb:(k ==NameKind.free)=false:=by simpa using hk
    simp only [hb,Bool.false_eq_true,if_false,pure_bind];rw [ih _ fun q hq=>hp q (List.mem_cons_of_mem _ hq)];show _=pure (l_3 env.cells r (if k= .free then(x,(env.cells.lookup x).getD 0)::acc else acc));rw [if_neg hk]
 unfold closureFor;have:=all scope.names [] h;simpa using this
theorem bf_5{cells:List (Str×Addr)}{q:Str×Addr}:∀{names:List (Str×NameKind)} {acc:List (Str×Addr)},q∈l_3 cells names acc→q∈acc∨((q.1,NameKind.free)∈names∧q.2=(cells.lookup q.1).getD 0)
 | [],acc,h=> .inl h
 |(x,k)::r,acc,h=>by
  rcases bf_5 (names:=r) h with h|⟨h1,h2⟩
  ·split at h
   ·rename_i hk;rcases List.mem_cons.mp h with rfl|h
    ·exact .inr ⟨by rw [hk];exact List.mem_cons_self,rfl⟩
    ·exact .inl h
   ·exact .inl h
  ·exact .inr ⟨List.mem_cons_of_mem _ h1,h2⟩
theorem bf_6{cells:List (Str×Addr)}{x:Str}:∀{names:List (Str×NameKind)} {acc:List (Str×Addr)},(acc.lookup x).isSome=true→((l_3 cells names acc).lookup x).isSome=true
 | [],acc,h=>h
 |(y,k)::r,acc,h=>by
  refine bf_6 (names:=r) ?_
  split
  ·rw [List.lookup_cons]
   split
   ·rfl
   ·exact h
  ·exact h
theorem bf_7{cells:List (Str×Addr)}{x:Str}:∀{names:List (Str×NameKind)} {acc:List (Str×Addr)},(x,NameKind.free)∈names→((l_3 cells names acc).lookup x).isSome=true
 |(y,k)::r,acc,h=>by
  rcases List.mem_cons.mp h with h|h
  ·cases h;refine bf_6 (names:=r) ?_;rw [if_pos rfl,List.lookup_cons];simp
  ·exact bf_7 (names:=r) h
theorem r_5{env:Env}:∀(names:List (Str×NameKind)) (x:Str),
  (names.map fun(n,k)=>if(k ==NameKind.free && env.scope.kind == .function && env.kindOf n ==some .cell) then(n,NameKind.cell) else(n,k)).lookup x=(names.lookup x).map fun k=>if(k ==NameKind.free && env.scope.kind == .function && env.kindOf x ==some .cell)=true then NameKind.cell else k
 | [],x=>rfl
 |(n,k)::r,x=>by
  have ih:=r_5 (env:=env) r x;show List.lookup x ((if(k ==NameKind.free && env.scope.kind == .function && env.kindOf n ==some .cell)=true then(n,NameKind.cell) else(n,k))::_)=_;cases hx:x ==n with
  |true=>
   have e:x=n:=eq_of_beq hx;subst e
   by_cases hc:(k ==NameKind.free && env.scope.kind == .function && env.kindOf x ==some .cell)=true
   ·rw [if_pos hc];simp only [List.lookup_cons,beq_self_eq_true,Option.map_some];rw [if_pos hc]
   ·rw [if_neg hc];simp only [List.lookup_cons,beq_self_eq_true,Option.map_some];rw [if_neg hc]
  |false=>
   by_cases hc:(k ==NameKind.free && env.scope.kind == .function && env.kindOf n ==some .cell)=true
   ·rw [if_pos hc];simp only [List.lookup_cons,hx];exact ih
   ·rw [if_neg hc];simp only [List.lookup_cons,hx];exact ih
def aj_6(inner outer:List (Str×NameKind))(N N':List Str):Bool:=
 (inner.all fun p=>p.2 != .cell && (p.2 != .local || inner.lookup p.1 ==some .local) && (p.2 != .free || (outer.lookup p.1 ==some .cell || outer.lookup p.1 ==some .free))) &&
 (List.range N.length).all fun i=>match N'[i]? with
  |some x=>(match inner.lookup x with
   |some .free=>N[i]? ==some x && (outer.lookup x ==some .cell || outer.lookup x ==some .free)
   |some .local=>false
   |some .cell=>false
   |_=>true)
  |none=>true
theorem bf_8{scope:Scope}{N':List Str}(ok:X.Ok)(hk:scope.kind= .function)(hb:aj_6 scope.names X.env.scope.names X.N N'=true):CompN X scope (l_3 X.env.cells scope.names []) N':=by
 unfold aj_6 at hb;rw [Bool.and_eq_true] at hb;obtain⟨h1,h2⟩:=hb;have h1:=List.all_eq_true.mp h1;have h2:=List.all_eq_true.mp h2;have fr:∀p∈scope.names,p.2= .free→∃c,X.env.cells.lookup p.1=some c:=fun p hp hf=>by
  have z:=h1 p hp;simp only [hf,Bool.and_eq_true,Bool.or_eq_true,bne_iff_ne,beq_iff_eq] at z;exact ok.has p.1 (by
   rcases z.2 with z|z
   ·exact absurd rfl z
   ·exact z)
 have inn:∀x k,scope.names.lookup x=some k→(x,k)∈scope.names:=fun x k e=>PySem.mem_of_lookup e;have ar:∀p∈scope.names,p.2≠ .cell:=fun p hp hc=>by
  have z:=h1 p hp;rw [hc] at z;simp at z
 have cw:∀x,scope.names.lookup x=some .free→∃c,(l_3 X.env.cells scope.names []).lookup x=some c:=fun x e=>Option.isSome_iff_exists.mp (bf_7 (inn x _ e));have ej:∀x,((relabel scope X.env).names.lookup x=some .cell∨(relabel scope X.env).names.lookup x=some .free)→scope.names.lookup x=some .free:=fun x h=>by
  unfold relabel at h;rw [r_5] at h;cases e:scope.names.lookup x with
  |none=>rw [e] at h;simp at h
  |some k=>
   rw [e] at h;have nc:=ar (x,k) (inn x k e);cases k with
   |free=>rfl
   |cell=>exact absurd rfl nc
   |«local»=>simp at h
   |globalExplicit=>simp at h
   |globalImplicit=>simp at h
 refine⟨ar_5 fr,ar,hk,fun y hy hl=> ?_,fun x c e=> ?_,fun x h=>cw x (ej x h),fun i x e hi hv=> ?_⟩
 ·have z:=h1 y hy;simp only [hl,Bool.and_eq_true,Bool.or_eq_true,bne_iff_ne,beq_iff_eq] at z;rcases z.1.2 with z|z
  ·exact absurd rfl z
  ·exact z
 ·rcases bf_5 (PySem.mem_of_lookup e) with z|⟨z1,z2⟩
  ·exact absurd z (by simp)
  ·obtain⟨c',e'⟩:=fr (x, .free) z1 rfl;have z2:c=(X.env.cells.lookup x).getD 0:=z2;have e':X.env.cells.lookup x=some c':=e';rw [e'] at z2⊢;cases z2;rfl
 ·have z:=h2 i (List.mem_range.mpr hi);rw [e] at z;dsimp only at z;have look:scope.names.lookup x=some .free∧(((relabel scope X.env).names.lookup x=some .cell∨(relabel scope X.env).names.lookup x=some .free)):=by
   unfold Vis relabel at hv;unfold relabel;rw [r_5] at hv⊢;cases q:scope.names.lookup x with
   |none=>rw [q] at hv;simp at hv
   |some k=>
    rw [q] at hv z;cases k with
    |free=>
     refine⟨rfl, ?_⟩
     by_cases hc:(X.env.scope.kind == .function && X.env.kindOf x ==some .cell)=true
     ·left;simp [Bool.and_assoc,hc]
     ·right;simp [Bool.and_assoc,hc]
    |cell=>simp at z
    |«local»=>simp at z
    |globalExplicit=>simp at hv
    |globalImplicit=>simp at hv
  rw [look.1] at z;simp only [Bool.and_eq_true,Bool.or_eq_true,beq_iff_eq] at z;exact⟨z.1,z.2,cw x look.1,look.2⟩
structure TurnZ(P:Program)(w:World)(K:Frag)(tg:Expr)(J:It)(fp:List Addr)(it:Addr)(tn:Nat→Heap→Prop)(B:Cx→Prop):Prop where
 obj:∀i h,tn i h→∀b∈fp,∃o,h.get? b=some o∧∀v,o.data≠ .cell v
 keep:∀i h h',tn i h→(∀b∈fp,∀o,h.get? b=some o→h'.get? b=some o)→tn i h'
 item:∀(X:Cx),X.prog=P→X.w=w→X.K=K→∀(i:Nat) (zd:List (Addr×Obj)) (s:Shared) (σ:Sg) (H:Hp) (E:Value→Shared→Prop),B X→Inv X zd σ H s→(∀b∈fp,x_4 X zd H b)→tn i s.heap→J.go i H→
  wpAny (model P w) X.A (pyNext (.ref it)) (fun r s1=>∃u,r=some u∧
   wpAny (model P w) X.A (letOwnedTupleGo tg (.ref it) u) (fun _ s2=>∃x H',Inv X zd σ H' s2∧RelV x u∧J.yld i H x H'∧tn (i + 1) s2.heap∧∀b∈fp,H' b=none) E s1) E s
 done:∀(X:Cx),X.prog=P→X.w=w→X.K=K→∀(i:Nat) (zd:List (Addr×Obj)) (s:Shared) (σ:Sg) (H:Hp) (E:Value→Shared→Prop),B X→Inv X zd σ H s→(∀b∈fp,x_4 X zd H b)→tn i s.heap→J.stop i H→
  wpAny (model P w) X.A (pyNext (.ref it)) (fun r s1=>r=none∧Inv X zd σ H s1) E s
 self:∀(A:Around) (i:Nat) (s:Shared) (Q:Value→Shared→Prop) (E:Value→Shared→Prop),tn i s.heap→Q (.ref it) s→wpAny (model P w) A (pyIter (.ref it)) Q E s
def cd_0:Cx→Prop:=fun X=>X.calm=true
theorem Turn.z{w:World}{tg:Expr}{J:It}{fp:List Addr}{it:Addr}{tn:Nat→Heap→Prop}(T:Turn P w K tg J fp it tn):TurnZ P w K tg J fp it tn cd_0:=
 ⟨T.obj,T.keep,fun X a b c i zd s σ H E hc=>T.item X a b c hc i zd s σ H E,fun X a b c i zd s σ H E hc=>T.done X a b c hc i zd s σ H E,T.self⟩
def BX:Cx→Prop:=fun X=>X.A.handled=none∨∃(x:Addr) (o:Obj) (u:HO) (us:Array Value),X.A.handled=some (.ref x)∧X.H₀ x=some (.frz o u)∧o.data= .fields us∧us[2]? =some .none
theorem BX.ok{zd:List (Addr×Obj)}{s:Shared}{σ:Sg}(b:BX X)(I:Inv X zd σ H s):HdOk X.A s.heap:=by
 rcases b with b|⟨x,o,u,us,e,h,d,c⟩
 ·exact .inl b
 ·exact .inr ⟨x,o,us,e,(I.hok x _ (I.base.frzs x o u h)).1,d,c⟩
theorem BX.ne{zd:List (Addr×Obj)}{s:Shared}{σ:Sg}{a:Addr}(b:BX X)(I:Inv X zd σ H s)(n:H a=none):X.A.handled≠some (.ref a):=fun z=>by
 rcases b with b|⟨x,o,u,us,e,h,_⟩
 ·rw [b] at z;cases z
 ·rw [e] at z;injection z with z;injection z with z;rw [←z,I.base.frzs x o u h] at n;cases n
theorem BX.on{X Y:Cx}{zd:List (Addr×Obj)}{s:Shared}{σ:Sg}(b:BX X)(I:Inv X zd σ H s)(e1:Y.A.handled=X.A.handled)(e2:Y.H₀=H):BX Y:=by
 rcases b with b|⟨x,o,u,us,e,h,d⟩
 ·exact .inl (e1.trans b)
 ·exact .inr ⟨x,o,u,us,e1.trans e,by rw [e2];exact I.base.frzs x o u h,d⟩
theorem bm_8{w:World}{tg:Expr}(a it:Addr):TurnZ P w K tg (Itl K a) [it] it (fun i h=>h.IsListIter it a i) BX where
 obj:=(aa_3 (P:=P) (w:=w) (K:=K) (tg:=tg) a it).obj
 keep:=(aa_3 (P:=P) (w:=w) (K:=K) (tg:=tg) a it).keep
 item:=by
  intro X hP hw hK i zd s σ H E _ I hf st hg;subst hP hw hK;obtain⟨xs,x,hq,hx⟩:=hg;obtain⟨its,rv,p,hz⟩:=I.list hq;obtain⟨u,hu,ru⟩:=rv.get hx;obtain⟨f0,f1,f2,f3,f4,f5⟩:=hf it (by simp);refine wpAny_pyNext_list_item st p.isList (x:=u) (by simpa using hu) fun h' st' sb=> ?_;have I1:Inv X zd σ H {s with heap:=h'}:=I.turned (t':=s.toks) (fun b o hb e=>(sb.2 b hb).trans e) f0 f1 f3 f4 f5;obtain⟨o,e,c,d⟩:=id st';exact⟨u,rfl,bd_7 (s:={s with heap:=h'}) e c d (by decide) ⟨x,H,I1,ru,⟨rfl,fun ys hy=>by rw [I.list_inj hy hq];exact hx⟩,st',fun b hb=>(hf b hb).1⟩⟩
 done:=by
  intro X hP hw hK i zd s σ H E b I hf st hg;subst hP hw hK;obtain⟨xs,hq,hx⟩:=hg;obtain⟨its,rv,p,hz⟩:=I.list hq;obtain⟨f0,f1,f2,f3,f4,f5⟩:=hf it (by simp);have hl:=rv.length;exact aj_3 (b.ok I) (b.ne I f0) st p.isList (by simp;omega) fun h' eb=>⟨rfl,I.turned (t':=s.toks) (fun b o hb e=>eb b o hb e) f0 f1 f3 f4 f5⟩
 self:=(aa_3 (P:=P) (w:=w) (K:=K) (tg:=tg) a it).self
def PIZ(X:Cx)(B:Cx→Prop)(tg iter:Expr)(wi:TI):Prop:=
 ∀(zd:List (Addr×Obj)) (s:Shared) (σ:Sg) (H:Hp) (R:It→Hp→Prop),Inv X zd σ H s→wi σ H R→
  wpAny (model X.prog X.w) X.A (eval iter X.env) (fun v s1=>wpAny (model X.prog X.w) X.A (pyIter v) (fun itv s2=>∃(it:Addr) (fp:List Addr) (tn:Nat→Heap→Prop) (J:It) (H':Hp),itv= .ref it∧Inv X zd σ H' s2∧TurnZ X.prog X.w X.K tg J fp it tn B∧tn 0 s2.heap∧(∀b∈fp,x_4 X zd H' b)∧R J H') X.xe s1) X.xe s
theorem PI.z{tg iter:Expr}{wi:TI}(h:PI X tg iter wi):PIZ X cd_0 tg iter wi:=fun zd s σ H R I q=>
 wpAny_mono (h zd s σ H R I q) (fun v s1 h1=>wpAny_mono h1 (fun itv s2 ⟨it,fp,tn,J,H',e,I2,T,r⟩=>⟨it,fp,tn,J,H',e,I2,Turn.z T,r⟩) fun _ _ z=>z) fun _ _ z=>z
theorem bw_3{elt iter tg:Expr}{ifs:List Expr}{scope:Scope}{N':List Str}{fi:FI}{fg:FGc}{p:FT}{f:FE}{m:Nat}(hx0:∀e s,¬X.xe e s){B:Cx→Prop}(hk:scope.kind= .function)(hb:aj_6 scope.names X.env.scope.names X.N N'=true)
  (hm:N'.length=X.N.length + m)
  (hin:∀C s0 H0 fp pn,GC (g_7 X scope (l_3 X.env.cells scope.names []) N' C s0 H0 fp pn) n_5 tg fg∧CTs (g_7 X scope (l_3 X.env.cells scope.names []) N' C s0 H0 fp pn) n_5 ifs p∧ED (g_7 X scope (l_3 X.env.cells scope.names []) N' C s0 H0 fp pn) n_5 elt f)
  {zd:List (Addr×Obj)} {s:Shared} {σ:Sg} {δ:DE} (I:Inv X zd σ H s) {Z:Hp→Hp→Prop} (hZ:∀G2 H2,Z G2 H2→Same G2 H2∧HasS X.K G2 σ δ) (hB:∀C s0 H0 fp pn,Inv X zd σ H0 s0→B (g_7 X scope (l_3 X.env.cells scope.names []) N' C s0 H0 fp pn))
  (hit:wpAny (model X.prog X.w) X.A (eval iter X.env) (fun xv s₁=>wpAny (model X.prog X.w) X.A (pyIter xv) (fun itv s₂=>∃(it:Addr) (fp:List Addr) (tn:Nat→Heap→Prop) (J:It) (H2:Hp) (ds:List D) (G2:Hp),itv= .ref it∧Inv X zd σ H2 s₂∧TurnZ X.prog X.w X.K tg J fp it tn B∧tn 0 s₂.heap∧(∀b∈fp,x_4 X zd H2 b)∧fi δ= .ok ds∧Z G2 H2∧ItD X.K G2 J ds) X.xe s₁) X.xe s)
  {RR:Value→Addr→Result→Shared→Prop}
  (o:match e_8 m fi fg p f δ with| .ok _=>True| .ex x=>False| .no=>False)
  (hRR:∀(Da C:Addr) (s1:Shared) (G2 H2 G' H':Hp) (vs:List V) (rs:List D),e_8 m fi fg p f δ= .ok (.ow (.lst rs))→Inv X zd σ H' s1→(∃m,s1.heap.Ns C m)→x_4 X zd H' C→Z G2 H2→Step G2 H2 G' H'→H2 Da=none→H' Da=some (.lst vs)→G' Da=none→HasL X.K G' vs rs→RR (.ref Da) C (.ok .next) s1):
  wpAny (model X.prog X.w) X.A (eval iter X.env) (fun x s₁=>wpAny (model X.prog X.w) X.A (pyIter x) (fun it s₂=>wpAny (model X.prog X.w) X.A (newList []) (fun acc s₃=>
   wpAny (model X.prog X.w) X.A (newFunctionEnv scope X.env.globals (l_3 X.env.cells scope.names []) [] X.env.qual none .none (some X.env)) (fun cenv s₄=>
    codeAny (model X.prog X.w) X.A (.compStart (.ListComp elt [⟨tg,iter,ifs,0⟩] scope pos) 0 it acc {cenv with scope:=relabel scope X.env}) (RR acc cenv.locals) s₄) X.xe s₃) X.xe s₂) X.xe s₁) X.xe s:=by
 have n:=bf_8 I.ok hk hb;generalize hcle:l_3 X.env.cells scope.names []=cl at n hin hB⊢;have bt:∀ds,fi δ= .ok ds→ds.length≤16777216∧(match o_6 fg p f (δ ++ List.replicate m none) ds with| .ok rs=>e_8 m fi fg p f δ= .ok (.ow (.lst rs))| .ex x=>False| .no=>False):=fun ds e=>by
  unfold e_8 at o⊢;simp only [e,R.bind_ok] at o⊢
  by_cases hz:ds.length≤16777216
  ·refine⟨hz, ?_⟩;rw [if_pos hz] at o⊢;cases e2:o_6 fg p f (δ ++ List.replicate m none) ds with
   |ok rs=>rfl
   |ex x=>rw [e2] at o;exact o
   |no=>rw [e2] at o;exact o
  ·rw [if_neg hz] at o;exact o.elim
 
 refine wpAny_mono hit (fun xv s₁ h₁=>wpAny_mono h₁ (fun itv s₂ h₂=> ?_) fun _ _ e=>(hx0 _ _ e).elim) fun _ _ e=>(hx0 _ _ e).elim;obtain⟨it,fp,tn,J,H2,ds,G2,rfl,I2,T,st2,f2,e2,hz2,itd⟩:=h₂;obtain⟨sg2,h0⟩:=hZ G2 H2 hz2;obtain⟨hz,o⟩:=bt ds e2
 
 have hfD:H2 s₂.heap.objs.size=none:=I2.hok.fresh (Nat.le_refl _);refine wpAny_newObj_type (wpAny_newFunctionEnv n.cell (by intro y hy;simp at hy) (fun h₁ hns₁ hsb₁=> ?_) n.kind);dsimp only at hns₁ hsb₁⊢;generalize hDa:s₂.heap.objs.size=Da at hfD;have hDn: @Eq Nat s₂.heap.objs.size Da:=hDa;have I3:Inv X zd σ (upd H2 Da (.lst [])) {s₂ with heap:=s₂.heap.push {cls:= .type "list",dict:=none,data:= .seq ([]:List Value).toArray}}:=by
  rw [←hDa];exact I2.lnew (t':=s₂.toks) .nil (Nat.zero_le _)
 generalize hH3:s₂.heap.push {cls:= .type "list",dict:=none,data:= .seq ([]:List Value).toArray}=hp3 at hns₁ hsb₁ I3⊢;have hC:hp3.objs.size=Da + 1:=by rw [←hH3,Heap.size_push,hDa]
 generalize hCe:hp3.objs.size=C at hns₁ hsb₁ hC;have hCn: @Eq Nat hp3.objs.size C:=hCe;have hC2: @Eq Nat C (Da + 1):=hC;have cz:∀b o,s₂.heap.get? b=some o→hp3.get? b=some o:=fun b o e=>by rw [←hH3];exact Heap.get?_push_of_some _ e
 have up:∀b o,hp3.get? b=some o→h₁.get? b=some o:=fun b o e=>hsb₁.extBut b o (Nat.ne_of_lt (show @LT.lt Nat _ b C by rw [←hCn];exact Heap.lt_size e)) (Heap.get?_push_of_some _ e)
 
 have fpC:∀b∈fp,b < s₂.heap.objs.size:=fun b hb=>by
  obtain⟨o,e,_⟩:=T.obj _ _ st2 b hb;exact Heap.lt_size e
 have hcl:∀x c,cl.lookup x=some c→c < hp3.objs.size∧c∉fp∧(upd H2 Da (.lst [])) c=none:=fun x c e=>by
  have e':=n.sub x c e;obtain⟨v,hv⟩:=I3.cell x c e';exact⟨hv.lt,fun z=>(f2 c z).2.2.2.2.1 x c e' rfl,I3.freeC x c e'⟩
 let X':=g_7 X scope cl N' C {s₂ with heap:=hp3} (upd H2 Da (.lst [])) fp (X.pn ++ zd)
 have ok':X'.Ok:=by
  refine⟨I.ok.mod,n.kind,I.ok.glob,I.ok.blt,Nat.le_of_eq hCe,fun x y c h1 h2=>I.ok.inj x y c (n.sub x c h1) (n.sub y c h2),fun x hx=>n.has x hx,fun x c z=> ?_,I.ok.hd,I.ok.frames, .inl rfl,fun b hb=>⟨?_,fun x c e z=> ?_⟩,fun b o e=> ?_, ?_,fun b o e hb=> ?_,fun b hb z=> ?_,I3.stack,I3.stkFree⟩
  ·exact absurd z Bool.false_ne_true
  ·exact Nat.ne_of_lt (Nat.lt_of_lt_of_le (fpC b hb) (show @LE.le Nat _ s₂.heap.objs.size C by omega))
  ·subst z;exact(hcl x c e).2.1 hb
  ·exact I3.bs b o e
  ·exact Nat.le_trans I.ok.bsz I3.sz
  ·rcases(f2 b hb).2.2.2.1 with z|z
   ·exact I.ok.noex b o e z
   ·exact absurd (Heap.lt_size (I.ok.bs b o e).1) (Nat.not_lt_of_le z)
  ·rcases List.mem_cons.mp (I3.stkSub b z) with z|z
   ·exact(f2 b hb).2.1 z
   ·exact(f2 b hb).2.2.1 z
 have lenσ:σ.length=X.N.length:=I.len;have I4:Inv X' [] (σ ++ List.replicate m none) (upd H2 Da (.lst [])) {s₂ with heap:=h₁,toks:=s₂.toks + ([]:List (Str×Value)).length}:=by
  refine⟨ok',rfl,I2.bare,Un.kept up,⟨_,hns₁,fun i x v e1 e2 e3=> ?_⟩,fun x c e=> ?_, ?_,fun x c e=>(hcl x c e).2.2,fun p hp=> ?_,I3.hok.kept up, ?_⟩
  ·have hi:i < σ.length:=by
    by_cases hh:i < σ.length
    ·exact hh
    ·rw [List.getElem?_append_right (by omega),List.getElem?_replicate] at e2
     split at e2 <;> cases e2
   rw [List.getElem?_append_left hi] at e2;obtain⟨n1,n2,⟨c,n3⟩,n4⟩:=n.old i x e1 (by omega) e3;obtain⟨mm,hnm,hl⟩:=I3.loc;obtain⟨u,r,l⟩:=hl i x v n1 e2 (.inr n2);refine⟨u,r, .inr ⟨n4,c,n3, ?_⟩⟩;have n3':=n.sub x c n3;rcases l with⟨k1,k2⟩|⟨k1,c',k2,k3⟩
   ·exfalso;have k1':X.env.scope.names.lookup x=some .local:=k1;rcases n2 with n2|n2
    ·rw [n2] at k1';cases k1'
    ·rw [n2] at k1';cases k1'
   ·rw [n3'] at k2;cases k2;exact k3.keeps up
  ·obtain⟨v,hv⟩:=I3.cell x c (n.sub x c e);exact⟨v,hv.keeps up⟩
  ·show upd H2 Da (.lst []) C=none;exact I3.hok.fresh (by show hp3.objs.size≤C;omega)
  ·have hp':p∈X.pn ++ zd:=by
    have hp2:p∈(X.pn ++ zd) ++ []:=hp
    rwa [List.append_nil] at hp2
   obtain⟨z1,z2,z3,z4,z5⟩:=I3.pin p hp';refine⟨up _ _ z1,z2, ?_,fun z=> ?_,z5⟩
   ·exact Nat.ne_of_lt (show @LT.lt Nat _ p.1 C by rw [←hCn];exact Heap.lt_size z1)
   ·rcases List.mem_cons.mp (I3.stkSub p.1 z) with z|z
    ·exact z3 z
    ·exact z4 z
  ·rw [List.length_append,List.length_replicate,lenσ];exact hm.symm
 obtain⟨hgc,hct,hel⟩:=hin C {s₂ with heap:=hp3} (upd H2 Da (.lst [])) fp (X.pn ++ zd);have hS4:HasS X.K G2 (σ ++ List.replicate m none) (δ ++ List.replicate m none):=by
  refine⟨by rw [List.length_append,List.length_append,List.length_replicate,List.length_replicate,h0.len],fun i d e=> ?_⟩
  by_cases hh:i < δ.length
  ·rw [List.getElem?_append_left hh] at e;obtain⟨v,e1,r⟩:=h0.get i d e;exact⟨v,by rw [List.getElem?_append_left (by rw [h0.len];exact hh)];exact e1,r⟩
  ·rw [List.getElem?_append_right (by omega),List.getElem?_replicate] at e
   split at e <;> cases e
 generalize hδ:δ ++ List.replicate m none=δ' at hS4 o;have stn:tn 0 h₁:=T.keep 0 _ _ st2 fun b hb o e=>up b o (cz b o e);have fpn:∀b∈fp,(upd H2 Da (.lst [])) b=none:=fun b hb=>by
  rw [b_1 (Nat.ne_of_lt (show @LT.lt Nat _ b Da by rw [←hDn];exact fpC b hb))];exact(f2 b hb).1
 have bj:∀{pl:List (Addr×Obj)} {H':Hp},pl= []→(∀b∈fp,H' b=none)→∀b∈fp,x_4 X' pl H' b:=fun{pl H'} hpl hn b hb=>by
  subst hpl;refine⟨hn b hb, ?_,fun z=> ?_, .inl hb,fun x c e z=> ?_,fun p hp z=> ?_⟩
  ·exact Nat.ne_of_lt (Nat.lt_of_lt_of_le (fpC b hb) (show @LE.le Nat _ s₂.heap.objs.size C by omega))
  ·rcases List.mem_cons.mp (I3.stkSub b z) with z|z
   ·exact(f2 b hb).2.1 z
   ·exact(f2 b hb).2.2.1 z
  ·subst z;exact(hcl x c e).2.1 hb
  ·have hp':p∈X.pn ++ zd:=by
    have hp2:p∈(X.pn ++ zd) ++ []:=hp
    rwa [List.append_nil] at hp2
   exact(f2 b hb).2.2.2.2.2 p hp' z
 have loop:∀s4:Shared,Inv X' [] (σ ++ List.replicate m none) (upd H2 Da (.lst [])) s4→tn 0 s4.heap→codeAny (model X.prog X.w) X.A (.compLoop (.ListComp elt [⟨tg,iter,ifs,0⟩] scope pos) 0 (.ref it) (.ref Da) (compEnvC scope cl C X.env)) (RR (.ref Da) C) s4:=by
  intro s4 I4 tn4;refine bm_7 (fun k s'=>∃i σ' H' G' vs rs,k=ds.length - i∧i≤ds.length∧Inv X' [] σ' H' s'∧tn i s'.heap∧(∀b∈fp,H' b=none)∧HasS X.K G' σ' δ'∧Step G2 H2 G' H'∧Same G2 G'∧H' Da=some (.lst vs)∧G' Da=none∧
   HasL X.K G' vs rs∧rs.length≤i∧(match o_6 fg p f δ' (ds.drop i) with| .ok rs2=>e_8 m fi fg p f δ= .ok (.ow (.lst (rs ++ rs2)))| .ex x=>False| .no=>False)) ?_ ds.length
   ⟨0,_,_,G2, [], [],by simp,Nat.zero_le _,I4,tn4,fpn,hS4,Step.own sg2 hfD _,Same.refl _,b_4,sg2.free hfD, .nil,Nat.zero_le _,by simpa using o⟩
  rintro k s' ⟨i,σ',H',G',vs,rs,rfl,hi,I',tni,fn',hS,st,sg,hD,gD,rl,hl,o'⟩
  obtain⟨i1,i2⟩:=itd G' H' sg st.gh i
  by_cases hlt:i < ds.length
  ·obtain⟨d,e1,e2⟩:=y_0 hlt;obtain⟨go,yl⟩:=i1 d e1;refine thn (T.item X' rfl rfl rfl i [] s' σ' H' _ (hB _ _ _ _ _ I3) I' (bj rfl fn') tni go) fun r s1 ⟨u,hr,h1⟩=> ?_;subst hr;refine thn h1 fun _ s5 ⟨x,H5,I5,r5,y5,st5,fr5⟩=> ?_;obtain⟨G5,ak,hx5⟩:=yl x H5 y5;have I5':=I5.pinned (bj rfl fr5) (T.obj _ _ st5);rw [e2] at o';have o1:match((fg d δ').bind fun δ1=>(p δ1).bind fun b=>if b=true then(f δ1).bind fun w=>(o_6 fg p f δ' (ds.drop (i + 1))).bind fun rs=> .ok (w.d::rs) else o_6 fg p f δ' (ds.drop (i + 1))) with| .ok rs2=>e_8 m fi fg p f δ= .ok (.ow (.lst (rs ++ rs2)))| .ex x=>False| .no=>False:=o'
   have hS5:HasS X.K G5 σ' δ':=hS.mono ak.gg;refine wpAny_mono (hgc _ s5 σ' H5 x u (fun σ6 H6=>∃δ1,fg d δ'= .ok δ1∧H6=H5∧HasS X.K G5 σ6 δ1∧HasS X.K G5 σ6 δ') I5' r5 ⟨G5,δ',d,ak.gh,hS5,hx5, ?_⟩) (fun _ s6 ⟨σ6,H6,I6,δ1,e6,eH,hS6,hS6'⟩=> ?_) fun _ _ z=>False.elim z
   ·cases e6:fg d δ' with
    |ok δ1=>exact fun σ6 h6 h6'=>⟨δ1,rfl,rfl,h6,h6'⟩
    |ex x=>rw [e6] at o1;exact o1
    |no=>rw [e6] at o1;exact o1
   subst eH;rw [e6] at o1;simp only [R.bind_ok] at o1;refine wpAny_mono (hct _ s6 σ6 H6 (fun b H7=>∃G7,p δ1= .ok b∧Step G5 H6 G7 H7) I6 ⟨G5,δ1,ak.gh,hS6, ?_⟩) (fun b s7 ⟨H7,I7,G7,e7,stp7⟩=> ?_) fun _ _ z=>False.elim z
   ·cases e7:p δ1 with
    |ok b=>exact fun G7 H7 st7=>⟨G7,rfl,st7⟩
    |ex x=>rw [e7] at o1;exact o1
    |no=>rw [e7] at o1;exact o1
   rw [e7] at o1;simp only [R.bind_ok] at o1
   
   have gD7:G7 Da=none:=(ak.trans stp7).nw Da gD (by rw [hD];simp);have hD7:H7 Da=some (.lst vs):=(ak.trans stp7).hh _ _ hD;have bf:∀{σ9:Sg} {H9:Hp} {s9:Shared},Inv X' ([] ++ an_1 fp s5.heap) σ9 H9 s9→tn (i + 1) s9.heap∧∀b∈fp,H9 b=none:=fun{σ9 H9 s9} I9=>
    ⟨T.keep _ _ _ st5 fun b hb o e=>(I9.pin (b,o) (List.mem_append_right _ (List.mem_append_right _ (v_5 hb e)))).1,fun b hb=>by
     obtain⟨o,e,d⟩:=T.obj _ _ st5 b hb;exact(I9.pin (b,o) (List.mem_append_right _ (List.mem_append_right _ (v_5 hb e)))).2.1⟩
   have hSk:∀{G9:Hp},Same G7 G9→HasS X.K G9 σ6 δ':=fun{G9} sm=>hS6'.mono (stp7.gg.trans sm);cases b with
   |false=>
    rw [if_neg Bool.false_ne_true] at o1⊢;exact⟨ds.length - (i + 1),by omega,i + 1,σ6,H7,G7,vs,rs,rfl,hlt,I7.unpinned,(bf I7).1,(bf I7).2,hSk (Same.refl _),st.trans (ak.trans stp7),sg.trans (ak.gg.trans stp7.gg),hD7,gD7,rl.mono (ak.gg.trans stp7.gg),by omega,o1⟩
   |true=>
    rw [if_pos rfl] at o1⊢;refine wpAny_mono (hel _ s7 σ6 H7 (fun v H8=>∃w G8,f δ1= .ok w∧Step G7 H7 G8 H8∧Has X.K G8 v w.d) I7 ⟨G7,δ1,stp7.gh,hS6.mono stp7.gg, ?_⟩) (fun u8 s8 ⟨v8,H8,I8,r8,w8,G8,e8,stp8,hv8⟩=> ?_) fun _ _ z=>False.elim z
    ·cases e8:f δ1 with
     |ok w=>exact WP.intro fun v G8 H8 st8 r8=>⟨w,G8,rfl,st8,r8⟩
     |ex x=>rw [e8] at o1;exact o1
     |no=>rw [e8] at o1;exact o1
    rw [e8] at o1;simp only [R.bind_ok] at o1;have gD8:G8 Da=none:=stp8.nw Da gD7 (by rw [hD7];simp);have hD8:H8 Da=some (.lst vs):=stp8.hh _ _ hD7;have rl8:HasL X.K G8 vs rs:=rl.mono (ak.gg.trans (stp7.gg.trans stp8.gg));refine wpAny_mono (au_2 (X:=X') _ s8 σ6 H8 (.ref Da) [v8] (.ref Da) [u8] (fun _ H9=>H9=upd H8 Da (.lst (vs ++ [v8]))) I8 rfl (.cons r8 .nil) ⟨Da,vs,v8,rfl,rfl,hD8,by rw [rl.length,sizeLine_eq];omega,rfl⟩) (fun _ s9 ⟨_,H9,I9,_,e9⟩=> ?_) fun _ _ z=>False.elim z;subst e9;have stA:=st.trans (ak.trans (stp7.trans stp8));refine⟨ds.length - (i + 1),by omega,i + 1,σ6,_,G8,vs ++ [v8],rs ++ [w8.d],rfl,hlt,I9.unpinned,(bf I9).1,(bf I9).2,hSk stp8.gg,⟨fun b o z=> ?_,fun b o z=> ?_,stA.gg,stA.nw⟩,sg.trans (ak.gg.trans (stp7.gg.trans stp8.gg)),b_4,gD8,rl8.append (.cons hv8 .nil),by rw [List.length_append,List.length_singleton];omega, ?_⟩
    ·rw [b_1 (c_2 z hfD)];exact stA.hh b o z
    ·rw [b_1 (c_2 z gD8)];exact stp8.gh b o z
    ·cases e10:o_6 fg p f δ' (ds.drop (i + 1)) with
     |ok rs2=>
      rw [e10] at o1;simp only [R.bind_ok] at o1⊢;rw [List.append_assoc];exact o1
     |ex x=>rw [e10] at o1;exact o1
     |no=>rw [e10] at o1;exact o1
  ·have e:ds.length=i:=by omega
   refine thn (T.done X' rfl rfl rfl i [] s' σ' H' _ (hB _ _ _ _ _ I3) I' (bj rfl fn') tni (i2 e)) fun r s1 ⟨hr,I1⟩=> ?_;subst hr;rw [List.drop_eq_nil_of_le (by omega)] at o';have o1:e_8 m fi fg p f δ= .ok (.ow (.lst (rs ++ []))):=o';rw [List.append_nil] at o1;obtain⟨mm,hnm,_⟩:=I1.loc;have dq:Inv X zd σ H' s1:=I3.call' (s':=s1) (ch:=fp) I1.os I1.base I1.hok I1.bare fun b hb=>by
    obtain⟨f0,f1',f2',f3,f4,f5⟩:=f2 b hb;exact⟨f3,f1',f4,f5⟩
   exact hRR Da C s1 G2 H2 G' H' vs rs o1 dq ⟨mm,hnm⟩ (I3.fpOk (by show hp3.objs.size≤C;omega) I1.free) hz2 st hfD hD gD rl
 exact codeAny_compStart_list (loop _ I4 stn) (T.self X.A 0 _ _ _ stn (loop _ I4 stn))
theorem bm_9{elt iter tg:Expr}{ifs:List Expr}{scope:Scope}{N':List Str}{fi:FI}{fg:FGc}{p:FT}{f:FE}{m:Nat}(hx0:∀e s,¬X.xe e s){B:Cx→Prop}(hi:PIZ X B tg iter (tI X.K n_5 fi))(hk:scope.kind= .function)(hb:aj_6 scope.names X.env.scope.names X.N N'=true)
  (hm:N'.length=X.N.length + m)
  (hin:∀C s0 H0 fp pn,GC (g_7 X scope (l_3 X.env.cells scope.names []) N' C s0 H0 fp pn) n_5 tg fg∧CTs (g_7 X scope (l_3 X.env.cells scope.names []) N' C s0 H0 fp pn) n_5 ifs p∧ED (g_7 X scope (l_3 X.env.cells scope.names []) N' C s0 H0 fp pn) n_5 elt f)
  {zd:List (Addr×Obj)} {s:Shared} {σ:Sg} {G H:Hp} {δ:DE} (I:Inv X zd σ H s) (g0:Same G H) (h0:HasS X.K G σ δ) (hB:∀C s0 H0 fp pn,Inv X zd σ H0 s0→B (g_7 X scope (l_3 X.env.cells scope.names []) N' C s0 H0 fp pn)) {RR:Value→Addr→Result→Shared→Prop}
  (o:match e_8 m fi fg p f δ with| .ok _=>True| .ex x=>False| .no=>False)
  (hRR:∀(Da C:Addr) (s1:Shared) (G' H':Hp) (vs:List V) (rs:List D),e_8 m fi fg p f δ= .ok (.ow (.lst rs))→Inv X zd σ H' s1→(∃m,s1.heap.Ns C m)→x_4 X zd H' C→Step G H G' H'→H Da=none→H' Da=some (.lst vs)→G' Da=none→HasL X.K G' vs rs→RR (.ref Da) C (.ok .next) s1):
  wpAny (model X.prog X.w) X.A (eval iter X.env) (fun x s₁=>wpAny (model X.prog X.w) X.A (pyIter x) (fun it s₂=>wpAny (model X.prog X.w) X.A (newList []) (fun acc s₃=>
   wpAny (model X.prog X.w) X.A (newFunctionEnv scope X.env.globals (l_3 X.env.cells scope.names []) [] X.env.qual none .none (some X.env)) (fun cenv s₄=>
    codeAny (model X.prog X.w) X.A (.compStart (.ListComp elt [⟨tg,iter,ifs,0⟩] scope pos) 0 it acc {cenv with scope:=relabel scope X.env}) (RR acc cenv.locals) s₄) X.xe s₃) X.xe s₂) X.xe s₁) X.xe s:=by
 refine bw_3 hx0 (B:=B) hk hb hm hin I (Z:=fun G2 H2=>Step G H G2 H2) (fun G2 H2 z=>⟨z.gh,h0.mono z.gg⟩) hB ?_ o fun Da C s1 G2 H2 G' H' vs rs e Io hm' fc z st h1 h2 h3 rl=>hRR Da C s1 G' H' vs rs e Io hm' fc (z.trans st) (z.hh.free h1) h2 h3 rl;refine wpAny_mono (hi zd s σ H (fun J H2=>∃ds G2,fi δ= .ok ds∧Step G H G2 H2∧ItD X.K G2 J ds) I ⟨G,δ,g0,h0, ?_⟩) (fun xv s₁ h₁=>wpAny_mono h₁ (fun itv s₂ h₂=> ?_) fun _ _ e=>(hx0 _ _ e).elim) fun _ _ e=>(hx0 _ _ e).elim
 ·unfold e_8 at o;cases e:fi δ with
  |ok ds=>exact fun J G2 H2 st it=>⟨ds,G2,rfl,st,it⟩
  |ex x=>rw [e] at o;exact o
  |no=>rw [e] at o;exact o
 ·obtain⟨it,fp,tn,J,H2,rfl,I2,T,st2,f2,ds,G2,e2,stp,itd⟩:=h₂;exact⟨it,fp,tn,J,H2,ds,G2,rfl,I2,T,st2,f2,e2,stp,itd⟩
theorem au_9{elt iter tg:Expr}{ifs:List Expr}{scope:Scope}{N':List Str}{fi:FI}{fg:FGc}{p:FT}{f:FE}{m:Nat}(hx0:∀e s,¬X.xe e s){B:Cx→Prop}(hB:∀zd σ C s0 H0 fp pn,Inv X zd σ H0 s0→B (g_7 X scope (l_3 X.env.cells scope.names []) N' C s0 H0 fp pn))(hi:PIZ X B tg iter (tI X.K n_5 fi))(hk:scope.kind= .function)(hb:aj_6 scope.names X.env.scope.names X.N N'=true)
  (hm:N'.length=X.N.length + m)
  (hin:∀C s0 H0 fp pn,GC (g_7 X scope (l_3 X.env.cells scope.names []) N' C s0 H0 fp pn) n_5 tg fg∧CTs (g_7 X scope (l_3 X.env.cells scope.names []) N' C s0 H0 fp pn) n_5 ifs p∧ED (g_7 X scope (l_3 X.env.cells scope.names []) N' C s0 H0 fp pn) n_5 elt f)
  (hs:∀x,foldedSetIterable iter X.env x=pure x:=by intro _;rfl):ED X n_5 (.ListComp elt [⟨tg,iter,ifs,0⟩] scope pos) (e_8 m fi fg p f):=by
 intro zd s σ H Q I q;obtain⟨G,δ,g0,h0,o⟩:=q;rw [eval_ListComp];have n:=bf_8 I.ok hk hb;refine wpAny_comprehension_free (use:=none) rfl hs n.clos n.kind n.names (bm_9 (RR:=fun acc C=>compPost (model X.prog X.w) X.A X.xe none (EP X zd σ Q) acc C) hx0 hi hk hb hm hin I g0 h0 (hB _ _) ?_ fun Da C s1 G' H' vs rs e Io hm' fc st h1 h2 h3 rl=> ?_)
 ·cases e:e_8 m fi fg p f δ with
  |ok w=>trivial
  |ex x=>rw [e] at o;exact o
  |no=>rw [e] at o;exact o
 ·rw [e] at o;obtain⟨mm,hnm⟩:=hm';obtain⟨c0,c1,c2,c3,c4,c5⟩:=fc;exact⟨mm,hnm,fun h' sb=>⟨.ref Da,H',Io.turned (t':=s1.toks) (fun b ob hb e=>(sb.2 b hb).trans e) c0 c1 c3 c4 c5,rfl,o (.ref Da) (fun b=>b=Da) G' H' st (fun a e=>by subst e;exact⟨h1,h3,by rw [h2];simp⟩) (.list h2 rfl rl)⟩⟩
theorem cd_1{elt iter tg:Expr}{ifs:List Expr}{scope:Scope}{N':List Str}{fi:FI}{fg:FGc}{p:FT}{f:FE}{m:Nat}(hx0:∀e s,¬X.xe e s)(hc:X.calm=true)(hi:ID X n_5 tg iter fi)(hk:scope.kind= .function)(hb:aj_6 scope.names X.env.scope.names X.N N'=true)
  (hm:N'.length=X.N.length + m)
  (hin:∀C s0 H0 fp pn,GC (g_7 X scope (l_3 X.env.cells scope.names []) N' C s0 H0 fp pn) n_5 tg fg∧CTs (g_7 X scope (l_3 X.env.cells scope.names []) N' C s0 H0 fp pn) n_5 ifs p∧ED (g_7 X scope (l_3 X.env.cells scope.names []) N' C s0 H0 fp pn) n_5 elt f)
  (hs:∀x,foldedSetIterable iter X.env x=pure x:=by intro _;rfl):ED X n_5 (.ListComp elt [⟨tg,iter,ifs,0⟩] scope pos) (e_8 m fi fg p f):=
 au_9 (B:=cd_0) hx0 (fun _ _ _ _ _ _ _ _=>hc) (PI.z hi) hk hb hm hin hs
theorem m_2{elt iter tg:Expr}{ifs:List Expr}{scope:Scope}{N':List Str}{fi:FI}{fg:FGc}{p:FT}{f:FE}{m:Nat}(hc:X.calm=true)(hi:ID X.nox n_5 tg iter fi)(hk:scope.kind= .function)(hb:aj_6 scope.names X.env.scope.names X.N N'=true)
  (hm:N'.length=X.N.length + m)
  (hin:∀C s0 H0 fp pn,GC (g_7 X scope (l_3 X.env.cells scope.names []) N' C s0 H0 fp pn) n_5 tg fg∧CTs (g_7 X scope (l_3 X.env.cells scope.names []) N' C s0 H0 fp pn) n_5 ifs p∧ED (g_7 X scope (l_3 X.env.cells scope.names []) N' C s0 H0 fp pn) n_5 elt f)
  (hs:∀x,foldedSetIterable iter X.env x=pure x:=by intro _;rfl):ED X EX (.ListComp elt [⟨tg,iter,ifs,0⟩] scope pos) (e_8 m fi fg p f):=
 PE.imp (PE.nox (cd_1 (X:=X.nox) (fun _ _ z=>z) hc hi hk hb hm hin hs)) fun σ H Q ⟨G,δ,g0,h0,o⟩=>by
  refine⟨G,δ,g0,h0, ?_⟩;cases e:e_8 m fi fg p f δ with
  |ok w=>rw [e] at o;exact o
  |ex x=>exact(bf_4 e).elim
  |no=>rw [e] at o;exact o
end
theorem av_0:bootBuiltins "bool" =some (.type "bool"):=by decide +kernel
theorem i_2{k:Nat}{scope:Scope}{cl:List (Str×Addr)}{N':List Str}{C:Addr}{s0:Shared}{H0:Hp}{fp:List Addr}{pn:List (Addr×Obj)}{c:Bool}(h:RoomC c k (Cx.A X)):RoomC c k (Cx.A (g_7 X scope cl N' C s0 H0 fp pn)):=h
theorem bw_4{scope:Scope}{cl:List (Str×Addr)}{N':List Str}{C:Addr}{s0:Shared}{H0:Hp}{fp:List Addr}{pn:List (Addr×Obj)}(h:Cx.calm X=true):Cx.calm (g_7 X scope cl N' C s0 H0 fp pn)=true:=h
section
variable{X:Cx}{EX:EXS}{a b e:Expr}{es:List Expr}{f g:FE}{fa:FA}{pos p2:Pos}
abbrev FO:=DE→R (Option Int)
def tDo(K:Frag)(EX:EXS)(fo:FO):TO:=fun σ H Q=>∃G δ,Same G H∧HasS K G σ δ∧match fo δ with
 | .ok i=>∀G' H',Step G H G' H'→Q i H'
 | .ex x=>(EX σ).p x G H
 | .no=>False
abbrev OD(X:Cx)(EX:EXS)(e:Option Expr)(fo:FO):Prop:=PO X e (tDo X.K EX fo)
def oNone:FO:=fun _=> .ok none
def intPart:D→R (Option Int)
 | .int i=> .ok (some i)
 |_=> .no
def oSome(f:FE):FO:=fun δ=>(f δ).bind fun w=>intPart w.d
theorem PO.imp{e:Option Expr}{t t':TO}(h:PO X e t)(i:∀σ H Q,t' σ H Q→t σ H Q):PO X e t':=fun zd s σ H Q I q=>h zd s σ H Q I (i σ H Q q)
theorem q_9:OD X EX none oNone:=PO.imp cj_6 fun σ H Q ⟨G,δ,g,s,o⟩=>o G H (Step.refl g)
theorem r_0(h:ED X EX e f):OD X EX (some e) (oSome f):=PO.imp (cj_7 h) fun σ H Q ⟨G,δ,g,s,o⟩=>by
 refine⟨G,δ,g,s, ?_⟩;unfold oSome at o;cases e1:f δ with
 |ok w=>
  rw [e1] at o;simp only [R.bind_ok] at o;refine WP.intro fun v G' H' st r=> ?_;revert r o;cases w.d with
  |int i=>intro o r;cases r;exact⟨i,rfl,o G' H' st⟩
  |_=>intro o _;exact False.elim o
 |ex x=>rw [e1] at o;exact o
 |no=>rw [e1] at o;exact o
def q_1{α:Type}(xs:List α)(lo hi:Option Int):List α:=(xs.drop (HT.sIx xs.length 0 lo)).take (HT.sIx xs.length xs.length hi - HT.sIx xs.length 0 lo)
def r_6:D→Option Int→Option Int→R W
 | .lst ds,lo,hi=> .ok (.ow (.lst (q_1 ds lo hi)))
 | .str x,lo,hi=>if x.length≤16777216 then .ok (.sh (.str (Txt.slice x lo hi))) else .no
 |_,_,_=> .no
theorem cv_0:SlR X (fun x lo hi H Q=>∃z,x= .str z∧z.length≤sizeLine∧Q (.str (Txt.slice z lo hi)) H):=by
 intro zd s σ H x v vl vu lo hi sl Q I rx hs pl pu h;obtain⟨z,rfl,hz,q⟩:=h;obtain⟨t,rfl⟩:=rx;refine⟨"str",_,PySem.F.slot_str_getitem.lookup,typeIs_str _ _ _, ?_⟩;obtain⟨o,ho,hc,hd⟩:=hs;have fin:∀t' k,EP X zd σ Q (.str (Txt.slice z lo hi) t') {s with toks:=k}:=fun t' k=>⟨.str _,H,I.tok _,⟨_,rfl⟩,q⟩;cases pl with
 |none=>
  cases pu with
  |none=>exact wpAny_getItem_str_slice (l:=none) (u:=none) (st:=none) ⟨o,ho,hc,hd⟩ rfl (post_val_or_str ⟨Nat.le_trans (Txt.slice_le z _ _) hz,fin⟩)
  |int j uj=>exact wpAny_getItem_str_slice (l:=none) (u:=some (j,uj)) (st:=none) ⟨o,ho,hc,hd⟩ rfl (post_val_or_str ⟨Nat.le_trans (Txt.slice_le z _ _) hz,fin⟩)
 |int i ui=>
  cases pu with
  |none=>exact wpAny_getItem_str_slice (l:=some (i,ui)) (u:=none) (st:=none) ⟨o,ho,hc,hd⟩ rfl (post_val_or_str ⟨Nat.le_trans (Txt.slice_le z _ _) hz,fin⟩)
  |int j uj=>exact wpAny_getItem_str_slice (l:=some (i,ui)) (u:=some (j,uj)) (st:=none) ⟨o,ho,hc,hd⟩ rfl (post_val_or_str ⟨Nat.le_trans (Txt.slice_le z _ _) hz,fin⟩)
def rSlD(K:Frag):V→Option Int→Option Int→Hp→VK→Prop:=fun x lo hi H Q=>∃(EX:EXT) (G:Hp) (d:D),Same G H∧Has K G x d∧Out K EX G H (r_6 d lo hi) Q
theorem sl_d:SlR X (rSlD X.K):=by
 intro zd s σ H x v vl vu lo hi sl Q I rx hs pl pu h;obtain⟨EX,G,d,g,r,o⟩:=h;cases r with
 |lst h r=>
  rename_i vs ds;refine cj_9 zd s σ H _ v vl vu lo hi sl Q I rx hs pl pu ⟨_,_,rfl,g.seq h,fun p hp=> ?_⟩;have bo:HasL X.K G (cutV vs lo hi) (q_1 ds lo hi):=by
   unfold cutV q_1;rw [r.length];exact(r.drop _).take _
  exact v_7 o g bo p hp
 |str z=>
  simp only [r_6] at o
  split at o
  ·rename_i hz;exact cv_0 zd s σ H _ v vl vu lo hi sl Q I rx hs pl pu ⟨z,rfl,by rw [sizeLine_eq];exact hz,d_6 o g (.str _)⟩
  ·exact o.elim
 |_=>exact False.elim o
def eSlice(f:FE)(lo hi:FO):FE:=fun δ=>(f δ).bind fun w=>(lo δ).bind fun l=>(hi δ).bind fun u=>r_6 w.d l u
theorem tDo.seq{G H:Hp}{σ:Sg}{δ:DE}{fo:FO}{k:Option Int→R W}{Q:VK}{P:Option Int→Hp→Prop}(g:Same G H)(s:HasS K G σ δ)(h:Out K (EX σ) G H ((fo δ).bind k) Q)
  (i:∀b G' H',fo δ= .ok b→Step G H G' H'→Out K (EX σ) G' H' (k b) Q→P b H'):tDo K EX fo σ H P:=by
 refine⟨G,δ,g,s, ?_⟩;cases e:fo δ with
 |ok w=>rw [e] at h;exact fun G' H' st=>i w G' H' e st (Out.mono st h)
 |ex x=>rw [e] at h;exact h
 |no=>rw [e] at h;exact h
theorem n_8{lo hi:Option Expr}{fl fh:FO}(he:ED X EX e f)(hl:OD X EX lo fl)(hu:OD X EX hi fh):ED X EX (.Subscript e (.Slice lo hi none p2) pos) (eSlice f fl fh):=
 PE.imp (cb_3 sl_d he hl hu) fun σ H Q ⟨G,δ,g0,s0,o⟩=>tD.seq g0 s0 o fun w v G1 H1 _ st1 r1 o1=>tDo.seq st1.gh (s0.mono st1.gg) o1 fun l G2 H2 _ st2 o2=>
  tDo.seq st2.gh (s0.mono (st1.gg.trans st2.gg)) o2 fun u G3 H3 _ st3 o3=>⟨_,G3,w.d,st3.gh,r1.mono (st2.gg.trans st3.gg),o3⟩
def tyD(T:String):D→Bool
 | .str _=>T == "str"
 | .int _=>T == "int"
 | .lst _=>T == "list"
 |_=>false
theorem da_9{G H:Hp}{T:String}{d:D}(g:Same G H)(r:Has K G v d)(h:tyD T d=true):tyV K T v H:=by
 cases r with
 |str x=>exact eq_of_beq h
 |int i=>exact eq_of_beq h
 |lst hq r=>exact .inl ⟨eq_of_beq h,_,g.seq hq⟩
 |_=>cases h
def rDm(K:Frag)(fn:D→List D→R W):V→List V→Hp→VK→Prop:=fun x vs H Q=>∃(EX:EXT) (G:Hp) (d:D) (ds:List D),Same G H∧Has K G x d∧HasL K G vs ds∧Out K EX G H (fn d ds) Q
abbrev MtD(X:Cx)(id:String)(fn:D→List D→R W):Prop:=MtR X id (rDm X.K fn)
def eMeth(T:String)(fn:D→List D→R W)(f:FE)(fa:FA):FE:=fun δ=>(f δ).bind fun w=>if tyD T w.d=true then(fa δ).bind fun ds=>fn w.d ds else .no
variable{o:Expr}{name:Str}{zh zf:Pos}{T id:String}{fn:D→List D→R W}
theorem bq_8(pa:PlainAttrs T)(slot:Slot T name id)(hty:typeOf (.builtin id)=pure (.type "method_descriptor"))(hm:MtD X id fn)(ho:ED X EX o f)(ha:AD X EX (e::es) fa)
  (aa:attributeBase o name X.env (eval o X.env)=eval o X.env:=by rfl)
  (ba:((backTo zf (starEach (e::es) X.env)).all (fun x=> !x.1) && (backToKw zf (keywordEach [] X.env)).all (fun x=>x.1.isSome)
   && decide ((e::es).length + ([]:List Keyword).length + (if([]:List Keyword).isEmpty then 0 else 1) < 30))=true:=by rfl)
  (ae:(zh.endLine ==zf.line)=true:=by rfl) (hs:starEach (e::es) X.env=(false,eval e X.env)::starEach es X.env:=by rfl) (ah:(backTo zf (starEach es X.env)).any (·.1)=false:=by rfl):
  ED X EX (.Call (.Attribute o name zh) (e::es) [] zf) (eMeth T fn f fa):=
 PE.imp (cp_5 pa slot hty hm ho ha aa ba ae hs ah) fun σ H Q ⟨G,δ,g0,s0,o⟩=>tD.seq g0 s0 o fun w v G1 H1 _ st1 r1 o1=>by
  split at o1
  ·rename_i ht;exact⟨da_9 st1.gh r1 ht,tDa.seq st1.gh (s0.mono st1.gg) o1 fun ds vs G2 H2 _ st2 r2 o2=>⟨_,G2,w.d,ds,st2.gh,r1.mono st2.gg,r2,o2⟩⟩
  ·exact o1.elim
def eMeth0(T:String)(fn:D→List D→R W)(f:FE):FE:=fun δ=>(f δ).bind fun w=>if tyD T w.d=true then fn w.d [] else .no
theorem bq_9{G:Hp}{d:D}{ds:List D}(r:Has K G v d)(rl:HasL K G vs ds){P:Prop}(h:∀x y,v= .str x→d= .str x→vs= [.str y]→ds= [.str y]→P)(n:(∀x y,¬(d= .str x∧ds= [.str y]))→P):P:=by
 by_cases e:∃x y,d= .str x∧ds= [.str y]
 ·obtain⟨x,y,rfl,rfl⟩:=e;cases r;cases rl with
  |cons a t=>cases a;cases t;exact h x y rfl rfl rfl rfl
 ·exact n fun x y z=>e ⟨x,y,z⟩
def bf_9:D→List D→R W
 | .str x, [.str y]=> .ok (.sh (.int (Txt.find x y)))
 |_,_=> .no
theorem cd_2:MtD X "str.find" bf_9:=by
 intro zd s σ H x vs v us Q I rx rv h;obtain⟨EX,G,d,ds,g,r,rl,o⟩:=h;refine bq_9 r rl (fun x y e1 e2 e3 e4=> ?_) fun n=> ?_
 ·subst e1 e2 e3 e4;obtain⟨t,rfl⟩:=rx;obtain⟨u,rfl,t',rfl⟩:=rv.one;exact SC.find ⟨.int _,H,I.tok _,⟨_,rfl⟩,d_6 o g (.int _)⟩
 ·have e:bf_9 d ds= .no:=by
   unfold bf_9
   split
   ·rename_i x y;exact absurd ⟨rfl,rfl⟩ (n x y)
   ·rfl
  rw [e] at o;exact o.elim
def isT(T:String):D→Option Bool
 | .non=>some false
 | .bl _=>some (T == "bool" || T == "int")
 | .int _=>some (T == "int")
 | .str _=>some (T == "str")
 | .lst _=>some (T == "list")
 | .tup _=>some (T == "tuple")
 |_=>none
def eIs(T:String)(f:FE):FE:=fun δ=>(f δ).bind fun w=>match isT T w.d with
 |some k=> .ok (.sh (.bl k))
 |none=> .no
structure KitT(K:Frag)(T:String):Prop where
 non:kitOne K (.type "NoneType") (.type T)=some false
 bl:kitOne K (.type "bool") (.type T)=some (T == "bool" || T == "int")
 int:kitOne K (.type "int") (.type T)=some (T == "int")
 str:kitOne K (.type "str") (.type T)=some (T == "str")
 lst:kitOne K (.type "list") (.type T)=some (T == "list")
 tup:kitOne K (.type "tuple") (.type T)=some (T == "tuple")
theorem cd_3{T:String}(k:KitT X.K T):w_8 X (.builtin "isinstance") (fun xs H Q=>∃G x d b,xs= [x, .ty T]∧Same G H∧Has X.K G x d∧isT T d=some b∧Q (.bl b) H):=by
 intro zd s σ H xs us Q I rv h;obtain⟨G,x,d,b,rfl,g,r,e,q⟩:=h;obtain⟨u,u2,rfl,r1,r2⟩:=rv.two;cases r2;have fin:∀tk,EP X zd σ Q (.bool b) {s with toks:=tk}:=fun tk=>⟨.bl b,H,I.tok _,rfl,q⟩;cases r with
 |non=>cases r1;exact kia_one kitx_none I.kIn True.intro (k.non.trans e) (fun z=>nomatch z) fin
 |bl y=>cases r1;exact kia_one kitx_bool I.kIn True.intro (k.bl.trans e) (fun z=>nomatch z) fin
 |int i=>obtain⟨t,rfl⟩:=r1;exact kia_one kitx_int I.kIn True.intro (k.int.trans e) (fun z=>nomatch z) fin
 |str y=>obtain⟨t,rfl⟩:=r1;exact kia_one kitx_str I.kIn True.intro (k.str.trans e) (fun z=>nomatch z) fin
 |lst h r=>
  cases r1;obtain⟨its,_,⟨ob,n,e1,c,_,_⟩,_⟩:=I.list (g.seq h);exact kia_one kitx_list I.kIn ⟨ob,e1,c⟩ (k.lst.trans e) (fun z=>nomatch z) fin
 |tup h r=>
  cases r1;obtain⟨its,_,⟨ob,e1,c,_⟩,_⟩:=I.tuple (Same.tupS g h);exact kia_one kitx_tuple I.kIn ⟨ob,e1,c⟩ (k.tup.trans e) (fun z=>nomatch z) fin
 |exn0 _ _=>cases e
 |exn1 _ _ _ _ _=>cases e
 |dic _ _ _=>cases e
 |obj _ _ _ _=>cases e
theorem ah_4{Tn:Str}{T:String}{pp p3:Pos}(k:KitT X.K T)(ha:ED X EX a f)(hm:X.mg "isinstance" =none)(hmT:X.mg Tn=none)(hvT:bootBuiltins Tn=some (.type T))(hg:Gl X "isinstance" :=by rfl)(hgT:Gl X Tn:=by rfl)
  (hn:Tn≠ "__name__" :=by decide) (hdT:(Tn ==("__debug__" :Str))=false:=by decide)
  (he:starEach [a, .Name Tn p3] X.env=(false,eval a X.env)::starEach [.Name Tn p3] X.env:=by rfl) (hpl:(backTo pos (starEach [.Name Tn p3] X.env)).any (·.1)=false:=by rfl)
  (hs:starEach [.Name Tn p3] X.env=(false,eval (.Name Tn p3) X.env)::starEach [] X.env:=by rfl):ED X EX (.Call (.Name "isinstance" pp) [a, .Name Tn p3] [] pos) (eIs T f):=
 PE.imp (x_5 (cd_3 k) hg hm boot_isinstance (i_7 ha (i_7 (bp_2 (v:= .ty T) hgT hmT hvT rfl hn hdT) t_1 hs) he) (by decide) (by decide) he hpl) fun σ H Q ⟨G,δ,g0,s0,o⟩=>tD.seq g0 s0 o fun w v G1 H1 _ st1 r1 o1=>by
  split at o1
  ·rename_i b e;exact⟨G1,v,w.d,b,rfl,st1.gh,r1,e,d_6 o1 st1.gh (.bl b)⟩
  ·exact o1.elim
end
def ao_2(K:Frag):Sp:=fun vs H Q _=>∃(a:Addr) (ns:List Int),vs= [.ref a]∧SqL K H a (ns.map V.int)∧ns.length≤63∧∀H',Q (.bl true) H'
theorem br_0{G:Hp}:∀ns:List Int,HasL K G (ns.map V.int) (ns.map D.int)
 | []=> .nil
 |n::ns=> .cons (.int n) (br_0 ns)
theorem cv_1{w:World}{k:Nat}{f:Addr}{x:Str}{F:List D→R W}(h:FnX P w K mg base true k f fd [x] (spX K 1 F))
  (hF:∀ns:List Int,ns.length≤63→∃v,F [.lst (ns.map D.int)]= .ok v∧v.d= .bl true):FnOk P w K mg base CX0 k f fd [x] (ao_2 K):=by
 have hs:∀vs H Q E,ao_2 K vs H Q E→spX K 1 F vs H Q fun _ _ _=>False:=fun vs H Q E q=>by
  obtain⟨a,ns,rfl,hS,hl,q⟩:=q;obtain⟨v,e,ev⟩:=hF ns hl;refine⟨rfl,H, [.lst (ns.map D.int)],Same.refl _, .cons (.lst hS (br_0 ns)) .nil, ?_⟩;rw [e];refine WP.intro fun u G' H' st r=> ?_;rw [ev] at r;cases r;exact q H'
 refine⟨fun vs H Q E q=>(hs vs H Q E q).1,fun A outer s H args us vs Q E hr e0 hb hv q=>codeAny_mono (h.run A outer s H args us vs Q _ (RoomC.of hr) e0 hb hv (hs vs H Q E q)) fun r s' hq=> ?_⟩;cases r with
 |error e=>
  obtain⟨a,C,dx,T,H',_,_,_,_,_,_,_,_,_,_,z⟩:=hq;exact z
 |ok fl=>cases fl <;> exact hq
theorem db_0{l:PySem.W.OpenLaw}{q:Program}{loose:List Str}{XP:(Str→Option Value)→Heap→Prop}{YP:World→Heap→Prop}{d:DefRec}{K:Params→Frag}{x:Str}{k:Nat}(hn:l.most=some 63)(hdf:d.params.defaults= [])(hr:Room k callerA)
  (hY:∀(w:World) (h:Heap),YP w h→(K w.params).In h)
  (F:∀(w:World) (mg:Str→Option Value) (fa:Addr) (h:Heap),(K w.params).In h→h.Ns mainGlobals mg→mg d.name=some (.ref fa)→
   ∃fd:FuncData,(∀(s:Shared) (u:Value),BindsTo s fd ⟨[u], []⟩ [(x,u)])∧∀base:Heap,(K w.params).In base→base.Ns mainGlobals mg→FnOk l.prog w (K w.params) mg base CX0 k fa fd [x] (ao_2 (K w.params))):
  PySem.W.WalkO q loose XP YP l.row.toRowW d [] (fun f vs=>PySem.call f vs):=
 ck_1 (n:=63) (k:=k) (x:=x) (CX:=fun _=>CX0) (sp:=fun w=>ao_2 (K w.params)) hn (by decide) hdf hr hY F (fun _ _ a ns hl _ hS=>⟨a,ns,rfl,hS,hl,fun _=>rfl⟩) fun _ _ _ _ _ z=>z
theorem Inv.pair{zd:List (Addr×Obj)}{σ:Sg}{s:Shared}{e it:Addr}{h':Heap}{tk:Nat}{its:List Value}(I:Inv X zd σ H s)(fe:x_4 X zd H e)(fi:x_4 X zd H it)
  (k:∀b o,b≠e→b≠it→s.heap.get? b=some o→h'.get? b=some o) (he:∃o,h'.get? e=some o) (hi:∃o,h'.get? it=some o) (ht:h'.get? s.heap.objs.size=some {cls:= .type "tuple",data:= .seq its.toArray}) (rv:Vals vs its) (hz:vs.length≤sizeLine):
  Inv X zd σ (upd H s.heap.objs.size (.tup vs)) {s with heap:=h',toks:=tk}:=by
 have hn:H s.heap.objs.size=none:=I.hok.fresh (Nat.le_refl _);obtain⟨e0,e1,e2,e3,e4,e5⟩:=fe;obtain⟨i0,i1,i2,i3,i4,i5⟩:=fi;have neH:∀b u,H b=some u→b≠e∧b≠it:=fun b u q=>⟨fun z=>(by rw [z,e0] at q;cases q),fun z=>(by rw [z,i0] at q;cases q)⟩;have lt:∀b o,s.heap.get? b=some o→b≠s.heap.objs.size:=fun b o q=>Nat.ne_of_lt (Heap.lt_size q);refine I.step (g':=s.gens) (d':=s.drawn) (ch:= [e,it]) (fun b hb=> ?_) (fun b o _ _ hc q _=>k b o (fun z=>hc (by simp [z])) (fun z=>hc (by simp [z])) q)
  (fun b o _ _ hc q _=>⟨o.slots,k b o (fun z=>hc (by simp [z])) (fun z=>hc (by simp [z])) q⟩) (fun b o _ q n=>by rw [b_1 (lt b o q)];exact n) (fun b o hc q=>⟨o,k b o (fun z=>hc (by simp [z])) (fun z=>hc (by simp [z])) q⟩)
  (fun b xs q=>by rw [b_1 (c_2 q hn)];exact q) (fun b o u q=>by rw [b_1 (c_2 q hn)];exact q) (fun b ps q=>⟨#[],by rw [b_1 (c_2 q hn),q];simp⟩) (fun m hm=> ?_) (fun b u q=> ?_) I.bare
 ·have hb':b=e∨b=it:=by simpa using hb
  rcases hb' with rfl|rfl
  ·exact⟨e3,e1,e4,e5⟩
  ·exact⟨i3,i1,i4,i5⟩
 ·obtain⟨o,es,ep,ho,r⟩:=hm;exact⟨o,es,ep,k _ o (Ne.symm e1) (Ne.symm i1) ho,r⟩
 ·by_cases z:b=s.heap.objs.size
  ·subst z;rw [b_4] at q;cases q;exact⟨hz,its,rv,⟨_,ht,rfl,0,rfl⟩⟩
  ·rw [b_1 z] at q;refine(I.hok b u q).stay (fun c v hc r=> ?_) (fun c r=>by rw [b_1 (c_2 r hn)];exact r) fun c xs r=>by rw [b_1 (c_2 r hn)];exact r
   rcases hc with rfl|hc
   ·exact k c v (neH c u q).1 (neH c u q).2 r
   ·exact k c v (neH c _ hc).1 (neH c _ hc).2 r
theorem Inv.turned2{zd:List (Addr×Obj)}{σ:Sg}{s:Shared}{e it:Addr}{h':Heap}{tk:Nat}(I:Inv X zd σ H s)(fe:x_4 X zd H e)(fi:x_4 X zd H it)
  (k:∀b o,b≠e→b≠it→s.heap.get? b=some o→h'.get? b=some o):Inv X zd σ H {s with heap:=h',toks:=tk}:=by
 obtain⟨e0,e1,e2,e3,e4,e5⟩:=fe;obtain⟨i0,i1,i2,i3,i4,i5⟩:=fi;have neH:∀b u,H b=some u→b≠e∧b≠it:=fun b u q=>⟨fun z=>(by rw [z,e0] at q;cases q),fun z=>(by rw [z,i0] at q;cases q)⟩;refine I.step (g':=s.gens) (d':=s.drawn) (ch:= [e,it]) (fun b hb=> ?_) (fun b o _ _ hc q _=>k b o (fun z=>hc (by simp [z])) (fun z=>hc (by simp [z])) q)
  (fun b o _ _ hc q _=>⟨o.slots,k b o (fun z=>hc (by simp [z])) (fun z=>hc (by simp [z])) q⟩) (fun b o _ q n=>n) (fun b o hc q=>⟨o,k b o (fun z=>hc (by simp [z])) (fun z=>hc (by simp [z])) q⟩)
  (fun b xs q=>q) (fun b o u q=>q) (fun b ps q=>⟨#[],by rw [q];simp⟩) (fun m hm=> ?_) (fun b u q=> ?_) I.bare
 ·have hb':b=e∨b=it:=by simpa using hb
  rcases hb' with rfl|rfl
  ·exact⟨e3,e1,e4,e5⟩
  ·exact⟨i3,i1,i4,i5⟩
 ·obtain⟨o,es,ep,ho,r⟩:=hm;exact⟨o,es,ep,k _ o (Ne.symm e1) (Ne.symm i1) ho,r⟩
 ·refine(I.hok b u q).stay (fun c v hc r=> ?_) (fun c r=>r) fun c xs r=>r;rcases hc with rfl|hc
  ·exact k c v (neH c u q).1 (neH c u q).2 r
  ·exact k c v (neH c _ hc).1 (neH c _ hc).2 r
def enL(K:Frag)(l:Addr):It:=
 ⟨fun i H=>∃xs x,SqL K H l xs∧xs[i]? =some x,fun i H v H'=>∃p,H p=none∧v= .ref p∧∀xs x,SqL K H l xs→xs[i]? =some x→H'=upd H p (.tup [.int (i:Int),x]),fun i H=>∃xs,SqL K H l xs∧xs.length=i⟩
def enS(z:Str):It:=
 ⟨fun i _=>i < z.cps.size,fun i H v H'=>∃p c,H p=none∧v= .ref p∧z.cps[i]? =some c∧H'=upd H p (.tup [.int (i:Int), .str ⟨#[c]⟩]),fun i _=>i=z.cps.size⟩
theorem cd_4{w:World}{elts:List Expr}{x1:Nat}(e it l:Addr)(hei:e≠it):Turn P w K (.Tuple elts x1 pos) (enL K l) [e,it] e (fun i h=>(∃old,IsEnum h e it (i:Int) old)∧h.IsListIter it l i) where
 mem:=by simp
 obj:=fun i h st b hb=>by
  have hb':b=e∨b=it:=by simpa using hb
  rcases hb' with rfl|rfl
  ·obtain⟨⟨old,q⟩,_⟩:=st;exact⟨_,q,fun v z=>by cases z⟩
  ·obtain⟨_,⟨o,q,c,d⟩⟩:=st;exact⟨o,q,fun v z=>by rw [d] at z;cases z⟩
 keep:=fun i h h' st k=>by
  obtain⟨⟨old,q⟩,r⟩:=st;exact⟨⟨old,k e (by simp) _ q⟩,r.at fun o z=>k it (by simp) o z⟩
 item:=by
  intro X hP hw hK hc i zd s σ H E I hf st hg;subst hP hw hK;obtain⟨xs,x,hq,hx⟩:=hg;obtain⟨its,rv,p,hz⟩:=I.list hq;obtain⟨u,hu,ru⟩:=rv.get hx;obtain⟨⟨old,he⟩,hit⟩:=st;have fe:=hf e (by simp);have fi:=hf it (by simp);have pl:=p.isList;have nle:l≠e:=fun z=>by
   subst z;obtain⟨o,ho,hc',_⟩:=pl;rw [show s.heap.get? l=_ from he] at ho;cases ho;exact absurd hc' (by simp)
  have nli:l≠it:=fun z=>by
   subst z;obtain⟨o,ho,hc',_⟩:=pl;obtain⟨o',ho',hc2,_⟩:=hit;rw [ho] at ho';cases ho';rw [hc'] at hc2;exact absurd hc2 (by simp)
  have hlt:i < its.toArray.size:=by
   have:=(List.getElem?_eq_some_iff.mp hu).1;simpa using this
  refine wpAny_pyNext_enum_itemD (Draws.list (A:=X.A.in1) (I.ok.hd hc) it l nli its.toArray) he ⟨hit,pl⟩ hlt hei (by simp [hei,Ne.symm nle]) fun y h' tk hy ho hst bp hsz kk=> ?_;have ey:y=u:=by
   have:its.toArray[i]? =some u:=by simpa using hu
   rw [this] at hy;exact(Option.some.inj hy).symm
  subst ey;refine⟨_,rfl,wpAny_letOwnedTupleGo_enum ho fun h'' bc sb=> ?_⟩;have aw:∃old,IsEnum h'' e it ((i + 1:Nat):Int) old:=⟨_,by
   have e1:((i + 1:Nat):Int)=(i:Int) + 1:=by omega
   rw [e1];exact bc⟩
  refine⟨.ref s.heap.objs.size,upd H s.heap.objs.size (.tup [.int (i:Int),x]), ?_,rfl,⟨_,I.hok.fresh (Nat.le_refl _),rfl,fun ys y' hy' ey'=> ?_⟩,⟨aw, ?_⟩,fun b hb=> ?_⟩
  ·have ne:s.heap.objs.size≠e:=fun z=>absurd (Heap.lt_size he) (by rw [←z];exact Nat.lt_irrefl _);refine Inv.pair (its:= [.int (i:Int) tk,y]) I fe fi (fun b o h1 h2 q=>(sb.2 b h1).trans (kk b o h1 h2 q)) ⟨_,bc⟩ ?_ ((sb.2 _ ne).trans bp) (.cons ⟨_,rfl⟩ (.cons ru .nil)) (by show 2≤sizeLine;decide);obtain⟨⟨o,q,_⟩,_⟩:=hst;exact⟨o,(sb.2 it (Ne.symm hei)).trans q⟩
  ·have:=I.list_inj hy' hq;subst this;rw [hx] at ey';cases ey';rfl
  ·exact hst.1.at fun o z=>(sb.2 it (Ne.symm hei)).trans z
  ·have hb':b=e∨b=it:=by simpa using hb
   have hbl:b < s.heap.objs.size:=by
    rcases hb' with rfl|rfl
    ·exact Heap.lt_size he
    ·obtain⟨o,q,_⟩:=hit;exact Heap.lt_size q
   rw [b_1 (Nat.ne_of_lt hbl)];exact(hf b hb).1
 done:=by
  intro X hP hw hK hc i zd s σ H E I hf st hg;subst hP hw hK;obtain⟨xs,hq,hx⟩:=hg;obtain⟨its,rv,p,hz⟩:=I.list hq;obtain⟨⟨old,he⟩,hit⟩:=st;have hl:=rv.length;have pl:=p.isList;have nli:l≠it:=fun z=>by
   subst z;obtain⟨o,ho,hc',_⟩:=pl;obtain⟨o',ho',hc2,_⟩:=hit;rw [ho] at ho';cases ho';rw [hc'] at hc2;exact absurd hc2 (by simp)
  have en:i=its.toArray.size:=by simp;omega
  refine wpAny_pyNext_enum_endD (Draws.list (A:=X.A.in1) (I.ok.hd hc) it l nli its.toArray) he (by rw [←en];exact⟨hit,pl⟩) fun h' eb=>⟨rfl, ?_⟩;exact Inv.turned2 (tk:=s.toks) I (hf e (by simp)) (hf it (by simp)) fun b o h1 h2 q=>eb b o h2 q
 self:=fun A i s Q E st h=>by
  obtain⟨⟨old,he⟩,_⟩:=st;exact wpAny_pyIter_enum he h
theorem av_1{prog:Program}{w:World}{A:Around}(hh:A.handled=none)(it:Addr)(x:Str)(t:Tok):
  Draws prog w A it [it] x.cps.size (fun i v=>∃c u,x.cps[i]? =some c∧v= .str ⟨#[c]⟩ u) (fun i h=>h.IsStrIter it (strIterType x) x t i):=by
 unfold strIterType;cases ha:x.cps.all (· < 128)
 ·exact Draws.strWide hh it x t
 ·exact Draws.strAscii hh it x t
theorem cd_5{w:World}{elts:List Expr}{x1:Nat}(e it:Addr)(z:Str)(t:Tok)(hei:e≠it):Turn P w K (.Tuple elts x1 pos) (enS z) [e,it] e (fun i h=>(∃old,IsEnum h e it (i:Int) old)∧h.IsStrIter it (strIterType z) z t i) where
 mem:=by simp
 obj:=fun i h st b hb=>by
  have hb':b=e∨b=it:=by simpa using hb
  rcases hb' with rfl|rfl
  ·obtain⟨⟨old,q⟩,_⟩:=st;exact⟨_,q,fun v z=>by cases z⟩
  ·obtain⟨_,⟨o,q,c,d⟩⟩:=st;exact⟨o,q,fun v z=>by rw [d] at z;cases z⟩
 keep:=fun i h h' st k=>by
  obtain⟨⟨old,q⟩,⟨o,r,c⟩⟩:=st;exact⟨⟨old,k e (by simp) _ q⟩,⟨o,k it (by simp) o r,c⟩⟩
 item:=by
  intro X hP hw hK hc i zd s σ H E I hf st hg;subst hP hw hK;obtain⟨⟨old,he⟩,hit⟩:=st;have fe:=hf e (by simp);have fi:=hf it (by simp);refine wpAny_pyNext_enum_itemD (av_1 (A:=X.A.in1) (I.ok.hd hc) it z t) he hit hg hei (by simp [hei]) fun y h' tk hy ho hst bp hsz kk=> ?_;obtain⟨c,uc,hcx,rfl⟩:=hy;refine⟨_,rfl,wpAny_letOwnedTupleGo_enum ho fun h'' bc sb=> ?_⟩;have aw:∃old,IsEnum h'' e it ((i + 1:Nat):Int) old:=⟨_,by
   have e1:((i + 1:Nat):Int)=(i:Int) + 1:=by omega
   rw [e1];exact bc⟩
  refine⟨.ref s.heap.objs.size,upd H s.heap.objs.size (.tup [.int (i:Int), .str ⟨#[c]⟩]), ?_,rfl,⟨_,c,I.hok.fresh (Nat.le_refl _),rfl,hcx,rfl⟩,⟨aw, ?_⟩,fun b hb=> ?_⟩
  ·have ne:s.heap.objs.size≠e:=fun z=>absurd (Heap.lt_size he) (by rw [←z];exact Nat.lt_irrefl _);refine Inv.pair (its:= [.int (i:Int) tk, .str ⟨#[c]⟩ uc]) I fe fi (fun b o h1 h2 q=>(sb.2 b h1).trans (kk b o h1 h2 q)) ⟨_,bc⟩ ?_ ((sb.2 _ ne).trans bp) (.cons ⟨_,rfl⟩ (.cons ⟨_,rfl⟩ .nil)) (by show 2≤sizeLine;decide);obtain⟨o,q,_⟩:=hst;exact⟨o,(sb.2 it (Ne.symm hei)).trans q⟩
  ·obtain⟨o,q,r⟩:=hst;exact⟨o,(sb.2 it (Ne.symm hei)).trans q,r⟩
  ·have hb':b=e∨b=it:=by simpa using hb
   have hbl:b < s.heap.objs.size:=by
    rcases hb' with rfl|rfl
    ·exact Heap.lt_size he
    ·obtain⟨o,q,_⟩:=hit;exact Heap.lt_size q
   rw [b_1 (Nat.ne_of_lt hbl)];exact(hf b hb).1
 done:=by
  intro X hP hw hK hc i zd s σ H E I hf st hg;subst hP hw hK;obtain⟨⟨old,he⟩,hit⟩:=st;have en:i=z.cps.size:=hg;refine wpAny_pyNext_enum_endD (av_1 (A:=X.A.in1) (I.ok.hd hc) it z t) he (by rw [←en];exact hit) fun h' eb=>⟨rfl, ?_⟩;exact Inv.turned2 (tk:=s.toks) I (hf e (by simp)) (hf it (by simp)) fun b o h1 h2 q=>eb b o h2 q
 self:=fun A i s Q E st h=>by
  obtain⟨⟨old,he⟩,_⟩:=st;exact wpAny_pyIter_enum he h
def i_5(k:Nat):List D→List D
 | []=> []
 |d::ds=> .tup [.int (k:Int),d]::i_5 (k + 1) ds
theorem p_3:∀{ds:List D} {k i:Nat} {d:D},(i_5 k ds)[i]? =some d→∃d',ds[i]? =some d'∧d= .tup [.int ((k + i:Nat):Int),d']
 | [],_,_,_,h=>by simp [i_5] at h
 |x::ds,k,0,d,h=>by simp [i_5] at h;exact⟨x,rfl,h.symm⟩
 |x::ds,k,i + 1,d,h=>by
  obtain⟨d',e1,e2⟩:=p_3 (ds:=ds) (k:=k + 1) (i:=i) (by simpa [i_5] using h);exact⟨d',by simpa using e1,by rw [e2,show k + 1 + i=k + (i + 1) by omega]⟩
theorem ah_5:∀(ds:List D) (k:Nat),(i_5 k ds).length=ds.length
 | [],_=>rfl
 |_::ds,k=>by simp [i_5,ah_5 ds (k + 1)]
def ao_3:D→R (List D)
 | .lst ds=> .ok (i_5 0 ds)
 | .str x=> .ok (i_5 0 (q_5 x))
 |_=> .no
def r_7(f:FE):FI:=fun δ=>(f δ).bind fun w=>ao_3 w.d
section
variable{X:Cx}{EX:EXS}{a:Expr}{f:FE}{elts:List Expr}{x1:Nat}{tp p pos:Pos}
def iEn(K:Frag)(t:TA):TI:=fun σ H Q=>t σ H fun vs H1=>(∃l,vs= [.ref l]∧(∃xs,SqL K H1 l xs)∧Q (enL K l) H1)∨(∃z,vs= [.str z]∧Q (enS z) H1)
theorem cl_5{ta:TA}(hg:Gl X "enumerate")(hm:X.mg "enumerate" =none)(ha:PA X [a] ta)(hs:starEach [a] X.env= [(false,eval a X.env)]:=by rfl):PI X (.Tuple elts x1 tp) (.Call (.Name "enumerate" p) [a] [] pos) (iEn X.K ta):=by
 intro zd s σ H Q I h;refine Call_ (v_4 I hg hm PyProof.Rows.boot_enumerate (PyProof.Rows.callWith_type1 (thn (ha pos zd s σ H _ I h) fun us s1 ⟨vs,H1,I1,r1,q1⟩=> ?_) hs rfl));rcases q1 with⟨l,rfl,⟨xs,hq⟩,q⟩|⟨z,rfl,q⟩
 ·obtain⟨u,rfl,ru⟩:=r1.one;cases ru;obtain⟨its,rv,pl,hz⟩:=I1.list hq;refine call_enumerate_list pl.isList fun h' he hit hsz kk=>wpAny_pyIter_enum he ?_;refine⟨s1.heap.objs.size + 1, [s1.heap.objs.size + 1,s1.heap.objs.size],_,enL X.K l,H1,rfl,I1.kept (t':=s1.toks) kk,cd_4 _ _ l (Nat.succ_ne_self _),⟨⟨_,he⟩,hit⟩,fun b hb=> ?_,q⟩;have hb':b=s1.heap.objs.size + 1∨b=s1.heap.objs.size:=by simpa using hb
  have hbl:s1.heap.objs.size≤b:=by
   rcases hb' with rfl|rfl
   ·exact Nat.le_succ _
   ·exact Nat.le_refl _
  exact I1.fpOk hbl (I1.hok.fresh hbl)
 ·obtain⟨u,rfl,t,rfl⟩:=r1.one;refine call_enumerate_str fun h' he hit hsz kk=>wpAny_pyIter_enum he ?_;refine⟨s1.heap.objs.size + 1, [s1.heap.objs.size + 1,s1.heap.objs.size],_,enS z,H1,rfl,I1.kept (t':=s1.toks) kk,cd_5 _ _ z t (Nat.succ_ne_self _),⟨⟨_,he⟩,hit⟩,fun b hb=> ?_,q⟩;have hb':b=s1.heap.objs.size + 1∨b=s1.heap.objs.size:=by simpa using hb
  have hbl:s1.heap.objs.size≤b:=by
   rcases hb' with rfl|rfl
   ·exact Nat.le_succ _
   ·exact Nat.le_refl _
  exact I1.fpOk hbl (I1.hok.fresh hbl)
theorem cl_6{G:Hp}{l:Addr}{ds:List D}(h:SqL K G l vs)(r:HasL K G vs ds):ItD K G (enL K l) (i_5 0 ds):=fun G' H g1 g i=>by
 refine⟨fun d e=> ?_,fun e=> ?_⟩
 ·obtain⟨d',e1,rfl⟩:=p_3 e;obtain⟨v,e2,hv⟩:=r.get e1;refine⟨⟨vs,v,(g1.trans g).seq h,e2⟩,fun x H' y=> ?_⟩;obtain⟨p,hp,rfl,y⟩:=y;have:=y vs v ((g1.trans g).seq h) e2;subst this;refine⟨_,Step.new g hp _, .tup (SqT.of b_4) (.cons (by rw [Nat.zero_add];exact .int _) (.cons (hv.mono (g1.trans (n_6 (g.free hp) _))) .nil))⟩
 ·rw [ah_5] at e;exact⟨vs,(g1.trans g).seq h,by rw [r.length];exact e⟩
theorem cl_7{G:Hp}(z:Str):ItD K G (enS z) (i_5 0 (q_5 z)):=fun G' H g1 g i=>by
 refine⟨fun d e=> ?_,fun e=> ?_⟩
 ·obtain⟨d',e1,rfl⟩:=p_3 e;unfold q_5 at e1;rw [List.getElem?_map] at e1;cases q:z.cps.toList[i]? with
  |none=>rw [q] at e1;cases e1
  |some c=>
   rw [q] at e1;cases e1;have hi:i < z.cps.size:=by
    have:=(List.getElem?_eq_some_iff.mp q).1;simpa using this
   refine⟨hi,fun x H' y=> ?_⟩;obtain⟨p,c',hp,rfl,hc,rfl⟩:=y;have:z.cps.toList[i]? =some c':=by simpa using hc
   rw [q] at this;cases this;refine⟨_,Step.new g hp _, .tup (SqT.of b_4) (.cons (by rw [Nat.zero_add];exact .int _) (.cons (.str _) .nil))⟩
 ·rw [ah_5] at e;unfold q_5 at e;rw [List.length_map] at e;show i=z.cps.size;simp at e;omega
theorem al_9(hm:X.mg "enumerate" =none)(he:ED X EX a f)(hg:Gl X "enumerate" :=by rfl)(hs:starEach [a] X.env= [(false,eval a X.env)]:=by rfl)(hs1:starEach [a] X.env=(false,eval a X.env)::starEach [] X.env:=by rfl):
  ID X EX (.Tuple elts x1 tp) (.Call (.Name "enumerate" p) [a] [] pos) (r_7 f):=
 PI.imp (cl_5 hg hm (i_7 he t_1 hs1) hs) fun σ H Q ⟨G,δ,g0,s0,o⟩=>by
  refine⟨G,δ,g0,s0, ?_⟩;unfold r_7 at o;cases e1:f δ with
  |ok w=>
   rw [e1] at o;simp only [R.bind_ok] at o;refine WP.intro fun v G' H' st r=> ?_;revert r o;cases w.d with
   |lst ds=>
    intro o r;cases r with
    |lst h r=>exact .inl ⟨_,rfl,⟨_,st.gh.seq h⟩,o _ G' H' st (cl_6 h r)⟩
   |str z=>
    intro o r;cases r;exact .inr ⟨z,rfl,o _ G' H' st (cl_7 z)⟩
   |_=>intro o _;exact False.elim o
  |ex x=>rw [e1] at o;exact o
  |no=>rw [e1] at o;exact o
end
def C3(i j c:Int):Prop:=0≤i∧i.natAbs < 1073741824∧j.natAbs < 1073741824∧0 < c∧c.natAbs < 1073741824
instance (i j c:Int):Decidable (C3 i j c):=by unfold C3;exact inferInstance
section
variable{X:Cx}{EX:EXS}{tg a b c:Expr}{fa:FA}{ta:TA}{p pos:Pos}
end
section
variable{X:Cx}{EX:EXS}{a:Expr}{f:FE}{pos:Pos}
def y_1:List D→Option (List Bool)
 | []=>some []
 | .bl b::ds=>(y_1 ds).map (b:: ·)
 |_=>none
def allD:List D→R W
 | [.lst ds]=>match y_1 ds with
  |some bs=> .ok (.sh (.bl (bs.all id)))
  |none=> .no
 |_=> .no
theorem bg_0{G:Hp}:∀{vs:List V} {ds:List D} {us:List Value} {bs:List Bool},HasL K G vs ds→Vals vs us→y_1 ds=some bs→us=bs.map Value.bool
 |_,_,_,_, .nil,r,e=>by cases r;cases e;rfl
 |_,_,_,_, .cons h t,r,e=>by
  cases r with
  |cons r1 r2=>
   cases h with
   |bl x=>
    cases r1;simp only [y_1] at e;obtain⟨zs,q,rfl⟩:=Option.map_eq_some_iff.mp e;rw [List.map_cons,bg_0 t r2 q]
   |_=>cases e
theorem bw_5(bs:List Bool):(List.range bs.length).all (fun i=>bs.getD i true)=bs.all id:=by
 rw [Bool.eq_iff_iff,List.all_eq_true,List.all_eq_true];constructor
 ·intro h b hb;obtain⟨i,hi,e⟩:=List.getElem_of_mem hb;have:=h i (List.mem_range.mpr hi);simp [hi] at this;rw [←e];exact this
 ·intro h i hi;have hi:=List.mem_range.mp hi;simp [hi];exact h _ (List.getElem_mem hi)
theorem bw_6(hc:X.calm=true):ae_2 X (.builtin "all") allD:=by
 intro zd s σ H vs us Q I rv q;obtain⟨EX,G,ds,g,r,o⟩:=q;cases r with
 |nil=>exact False.elim o
 |cons h t=>
  cases t with
  |cons _ _=>cases h <;> exact False.elim o
  |nil=>
   cases h with
   |lst h r=>
    rename_i l _ _;simp only [allD] at o
    split at o
    ·rename_i bs e;obtain⟨u,rfl,ru⟩:=rv.one;cases ru;obtain⟨its,rv',pl,hz⟩:=I.list (g.seq h);have eb:=bg_0 r rv' e;subst eb;have nl:l≠s.heap.objs.size:=fun z=>by
      obtain⟨o',ho,_⟩:=pl.isList;exact absurd (Heap.lt_size ho) (by rw [←z];exact Nat.lt_irrefl _)
     refine call_all_walk (wpAny_pyIter_list pl.isList ⟨s.heap.objs.size,_,_,_,_,_,fun i=>bs.getD i true,rfl,Walks.list (A:=X.A.in1) (I.ok.hd hc) s.heap.objs.size l nl (bs.map Value.bool).toArray,⟨⟨_,Heap.get?_push_size _ rfl,rfl,rfl⟩, ?_⟩,fun i v s' Q' E' hP hQ=> ?_,fun h' tk kk=> ?_⟩)
     ·exact pl.isList.at fun o z=>Heap.get?_push_of_some _ z
     ·have hP':(bs.map Value.bool)[i]? =some v:=by simpa using hP
      rw [List.getElem?_map] at hP';cases q:bs[i]? with
      |none=>rw [q] at hP';cases hP'
      |some b=>
       rw [q] at hP';cases hP';have:bs.getD i true=b:=by simp [List.getD,q]
       dsimp only at hQ;rw [this] at hQ;exact wpAny_truthy_bool hQ
     ·have en:(bs.map Value.bool).toArray.size=bs.length:=by simp
      rw [en,bw_5];refine⟨.bl _,H,I.kept (t':=tk) fun b o' z=>kk b o' (by
       have hb:b≠s.heap.objs.size:=Nat.ne_of_lt (Heap.lt_size z);simpa using hb) (Heap.get?_push_of_some _ z),rfl,d_6 o g (.bl _)⟩
    ·exact o.elim
   |_=>exact False.elim o
def ac_8:D→List D→R W
 | .str x, [.str y]=>match Builtin.Str.occurrences x y 0 x.length 1 with
  |i::_=> .ok (.sh (.int (i:Nat)))
  | []=> .no
 |_,_=> .no
theorem bw_7:MtD X "str.index" ac_8:=by
 intro zd s σ H x vs v us Q I rx rv h;obtain⟨EX,G,d,ds,g,r,rl,o⟩:=h;refine bq_9 r rl (fun x y e1 e2 e3 e4=> ?_) fun n=> ?_
 ·subst e1 e2 e3 e4;obtain⟨t,rfl⟩:=rx;obtain⟨u,rfl,t',rfl⟩:=rv.one;simp only [ac_8] at o
  split at o
  ·rename_i i x_3 e;exact SC.index e ⟨.int _,H,I.tok _,⟨_,rfl⟩,d_6 o g (.int _)⟩
  ·exact o.elim
 ·have e:ac_8 d ds= .no:=by
   unfold ac_8
   split
   ·rename_i x y;exact absurd ⟨rfl,rfl⟩ (n x y)
   ·rfl
  rw [e] at o;exact o.elim
end
section
variable{prog:Program}{w:World}{A:Around}{E:Value→Shared→Prop}{s:Shared}
theorem ae_7{env:Env}{elts:List Expr}{x1}{t:Addr}{items:Array Value}{Q:Unit→Shared→Prop}(hh:A.handled=none)(ht:s.heap.IsList t items)
  (hn:(assignEach elts env).length=items.size) (ck:(assignEach elts env).findIdx? (·.1)=none)
  (h:∀h',Heap.ExtBut s.heap.objs.size s.heap h'→wpAny (model prog w) A (assignInOrder ((assignEach elts env).map (·.2)) items.toList) Q E {s with heap:=h'}):
  wpAny (model prog w) A (assign (.Tuple elts x1 pos) env (.ref t)) Q E s:=by
 rw [assign_Tuple,unpack,hn,ck];exact wpAny_bind (wpAny_standAt (wpAny_bind (wpAny_holding (kun_itemsOf hh ht h))))
end
section
variable{X:Cx}{EX:EXS}{pos:Pos}
def gSeq(K:Frag)(n:Nat)(t:TGs):TG:=fun v σ H Q=>∃a xs,v= .ref a∧(SqT K H a xs∨SqL K H a xs)∧xs.length=n∧t xs σ H Q
theorem cv_2{es:List Expr}{k:Nat}{t:TGs}{n:Nat}(hc:X.calm=true)(h:PGs X es t)
  (hn:(assignEach es X.env).length=n:=by rfl) (hst:(assignEach es X.env).findIdx? (·.1)=none:=by rfl):PG X (.Tuple es k pos) (gSeq X.K n t):=by
 intro zd s σ H v u Q I r hw;obtain⟨a,xs,e1,hq,hl,hw⟩:=hw;rcases hq with hq|hq
 ·exact ca_1 hc h hn hst zd s σ H v u Q I r ⟨a,xs,e1,hq,hl,hw⟩
 ·subst e1;cases r;obtain⟨its,rv,ht,hz⟩:=I.list hq;refine ae_7 (I.ok.hd hc) ht.isList (by simp [hn,←hl,rv.length]) hst fun h' hx=> ?_;have I1:Inv X zd σ H {s with heap:=h'}:=I.kept (t':=s.toks) fun b o e=>hx b o (Nat.ne_of_lt (Heap.lt_size e)) e;exact h zd _ σ H xs _ Q I1 (by simpa using rv) hw
theorem HasS.skip{G:Hp}{σ:Sg}{δ:DE}{i:Nat}(h:HasS K G σ δ)(e:δ[i]? =some none):HasS K G (σ.set i (some v)) δ:=by
 refine⟨by rw [List.length_set];exact h.len,fun j d' e'=> ?_⟩;obtain⟨v',e1,r'⟩:=h.get j d' e';refine⟨v', ?_,r'⟩;rw [List.getElem?_set_ne]
 ·exact e1
 ·rintro rfl
  rw [e] at e';cases e'
end
section
variable{X:Cx}{EX:EXS}
def nonB:D→Bool
 | .non=>true
 |_=>false
def isND(neg:Bool):D→D→R W
 |d, .non=> .ok (.sh (.bl (if neg then !nonB d else nonB d)))
 |_,_=> .no
theorem cv_3{G:Hp}{d:D}(r:Has K G v d):decide (v= .non)=nonB d:=by
 cases r <;> rfl
theorem v_9:OpD X (compareOp .Is) (isND false):=by
 intro zd s σ H x y v u Q I rx ry q;obtain⟨EX,G,a,b,g,ra,rb,o⟩:=q;cases rb with
 |non=>exact cs_9 zd s σ H _ _ _ _ Q I rx ry ⟨rfl,by rw [cv_3 ra];exact d_6 o g (.bl _)⟩
 |_=>exact False.elim o
def repS(x:Str)(n:Nat):Str:=⟨(List.replicate n x.cps).foldl (· ++ ·) #[]⟩
theorem ao_4(x:Str)(n:Nat):(repS x n).length=n * x.length:=by
 have all:∀(m:Nat) (a:Array Nat),((List.replicate m x.cps).foldl (· ++ ·) a).size=a.size + m * x.cps.size:=by
  intro m
  induction m with
  |zero=>intro a;simp
  |succ m ih=>intro a;rw [List.replicate_succ,List.foldl_cons,ih,Array.size_append,Nat.succ_mul];omega
 show((List.replicate n x.cps).foldl (· ++ ·) #[]).size=n * x.cps.size;rw [all];simp
end
section
variable{X:Cx}{EX:EXS}{tg a b:Expr}{f g:FE}{fa:FA}{p pos:Pos}
theorem HasL.rep{G:Hp}{ds:List D}(r:HasL K G vs ds):∀n:Nat,HasL K G (List.replicate n vs).flatten (List.replicate n ds).flatten
 |0=> .nil
 |n + 1=>by rw [List.replicate_succ,List.replicate_succ,List.flatten_cons,List.flatten_cons];exact r.append (HasL.rep r n)
def repD(ds:List D):D→R W
 | .int k=>if k.natAbs < 4611686018427387904∧ds.length * k.toNat≤16777216 then .ok (.ow (.lst (List.replicate k.toNat ds).flatten)) else .no
 |_=> .no
def eRep(fa:FA)(f:FE):FE:=fun δ=>(fa δ).bind fun ds=>if ds.length≤16777216 then(f δ).bind fun w=>repD ds w.d else .no
theorem cv_6{es:List Expr}{di:Pos}(ha:AD X EX es fa)(hb:ED X EX b f):ED X EX (.BinOp (.List es di) .Mult b pos) (eRep fa f):=
 PE.imp (cp_3 ct_9 (cb_2 ha) hb) fun σ H Q ⟨G,δ,g0,s0,o⟩=>tDa.seq g0 s0 o fun ds vs G' H' _ st r o'=>by
  split at o'
  ·rename_i hz;refine⟨by rw [r.length,sizeLine_eq];exact hz,fun q hq=> ?_⟩;have so:=Step.own st.gh hq (.lst vs);refine tD.seq so.gh (s0.mono st.gg) (Out.mono so o') fun w v G2 H2 _ st2 r2 o2=> ?_;revert r2 o2;cases w.d with
   |int k=>
    intro r2 o2;cases r2;simp only [repD] at o2
    split at o2
    ·rename_i hk;exact⟨q,k,vs,rfl,rfl,st2.hh _ _ b_4,by have:=hk.1;omega,by have:=hk.1;omega,by rw [r.length,sizeLine_eq];exact hk.2,v_7 o2 st2.gh ((r.mono st2.gg).rep k.toNat)⟩
    ·exact o2.elim
   |_=>intro _ o2;exact False.elim o2
  ·exact o'.elim
def y_2:List D→Option (List Int)
 | []=>some []
 | .int i::ds=>(y_2 ds).map (i:: ·)
 |_=>none
def sumD:List D→R W
 | [.lst ds]=>match y_2 ds with
  |some is=> .ok (.sh (.int is.sum))
  |none=> .no
 |_=> .no
theorem br_1{G:Hp}:∀{vs:List V} {ds:List D} {us:List Value} {is:List Int},HasL K G vs ds→Vals vs us→y_2 ds=some is→us.length=is.length∧∀(j:Nat) (v:Value),us[j]? =some v→∃t,v= .int (is.getD j 0) t
 |_,_,_,_, .nil,r,e=>by cases r;cases e;exact⟨rfl,fun j v h=>by simp at h⟩
 |_,_,_,_, .cons h t,r,e=>by
  cases r with
  |cons r1 r2=>
   cases h with
   |int x=>
    obtain⟨tk,rfl⟩:=r1;simp only [y_2] at e;obtain⟨zs,q,rfl⟩:=Option.map_eq_some_iff.mp e;obtain⟨h1,h2⟩:=br_1 t r2 q;refine⟨by simp [h1],fun j v hj=> ?_⟩;cases j with
    |zero=>simp at hj;subst hj;exact⟨tk,rfl⟩
    |succ j=>
     obtain⟨t',e'⟩:=h2 j v (by simpa using hj);exact⟨t',by rw [e'];simp⟩
   |_=>cases e
theorem aj_7(is:List Int):∀j,preSum (fun i=>is.getD i 0) j=(is.take j).sum
 |0=>by simp [preSum]
 |j + 1=>by rw [preSum,aj_7 is j,PySem.sum_take_succ]
theorem bw_9{G:Hp}(lo:Int):∀n:Nat,HasL K G ((List.range n).map fun(k:Nat)=>V.int (lo + (k:Int))) (d_8 lo n):=by
 intro n;unfold d_8;generalize List.range n=l
 induction l with
 |nil=>exact .nil
 |cons a l ih=>exact .cons (.int _) ih
theorem db_1{n:Nat}{lo:Int}{acc:Array Value}(h:PySem.ItemsOf (fun i v=>∃t,v= .int (lo + i * 1) t) acc n):Vals ((List.range n).map fun(k:Nat)=>V.int (lo + (k:Int))) acc.toList:=by
 obtain⟨h1,h2⟩:=h;have all:∀(l:List Value) (k:Nat),(∀(j:Nat) v,l[j]? =some v→∃t,v= .int (lo + ((k + j:Nat):Int)) t)→Vals ((List.range' k l.length).map fun(k:Nat)=>V.int (lo + (k:Int))) l:=by
  intro l
  induction l with
  |nil=>intro k _;exact .nil
  |cons a l ih=>
   intro k h;rw [List.length_cons,List.range'_succ,List.map_cons];refine .cons ?_ (ih (k + 1) fun j v hj=> ?_)
   ·obtain⟨t,e⟩:=h 0 a rfl;exact⟨t,by rw [e];rfl⟩
   ·obtain⟨t,e⟩:=h (j + 1) v (by simpa using hj);exact⟨t,by rw [e,show k + (j + 1)=k + 1 + j by omega]⟩
 have:=all acc.toList 0 fun j v hj=>by
  obtain⟨t,e⟩:=h2 j v (by simpa using hj);exact⟨t,by rw [e];simp⟩
 rw [show acc.toList.length=n by simpa using h1] at this;rw [List.range_eq_range'];exact this
theorem bg_1{zd:List (Addr×Obj)}{s:Shared}{σ:Sg}{Q:VK}{lo hi:Int}{t u v:Tok}{tk:Nat}(hc:X.calm=true)(I:Inv X zd σ H s)(h1: -(2 ^ 62)≤lo)(h2:lo < 2 ^ 62)(h3: -(2 ^ 62)≤hi)(h4:hi < 2 ^ 62)(hz:(hi - lo).toNat≤16777216)
  (q:∀p,H p=none→Q (.ref p) (upd H p (.lst ((List.range (hi - lo).toNat).map fun(k:Nat)=>V.int (lo + (k:Int)))))):
  wpAny (model X.prog X.w) X.A (call (.type "list") [.ref s.heap.objs.size]) (EP X zd σ Q) X.xe {s with heap:=s.heap.push {cls:= .type "range",data:= .fields #[.int lo t, .int hi u, .int 1 v]},toks:=tk}:=by
 have I1:Inv X zd σ H {s with heap:=s.heap.push {cls:= .type "range",data:= .fields #[.int lo t, .int hi u, .int 1 v]},toks:=tk}:=I.kept fun b o e=>Heap.get?_push_of_some _ e;have en:Builtin.Range.rangeSize lo hi 1=(((hi - lo).toNat:Nat):Int):=by rw [rangeSize_one];split <;> omega
 refine PySem.call_list_range (I1.ok.hd hc) (IsRange.new ..) (small_one h1 h2 h3 h4) en hz fun h' tk' acc c kk hat it=> ?_;have rv:=db_1 it;have fr:=I1.hok.fresh (Nat.le_refl _);refine⟨.ref _,upd H _ (.lst _),I1.laid (t':=tk') kk (Nat.le_refl _) ⟨?_,acc.toList,c,rv,by simpa using hat⟩,rfl,q _ fr⟩;rw [rv.length,sizeLine_eq];have:=it.1;simp;omega
def eRng(k:List D→R (List D))(fa:FA):FE:=fun δ=>(fa δ).bind fun as=>(k as).bind fun ds=>if ds.length≤16777216 then .ok (.ow (.lst ds)) else .no
theorem ar_6{p' pos':Pos}(hc:X.calm=true)(hml:X.mg "list" =none)(hm:X.mg "range" =none)(ha:AD X EX [a] fa)(hgl:Gl X "list" :=by rfl)(hg:Gl X "range" :=by rfl)
  (hs:starEach [a] X.env= [(false,eval a X.env)]:=by rfl)
  (hs2:starEach [.Call (.Name "range" p') [a] [] pos'] X.env=(false,eval (.Call (.Name "range" p') [a] [] pos') X.env)::starEach [] X.env:=by rfl):
  ED X EX (.Call (.Name "list" p) [.Call (.Name "range" p') [a] [] pos'] [] pos) (eRng p_1 fa):=by
 intro zd s σ H Q I q;obtain⟨G,δ,g0,s0,o⟩:=q;refine Call_ (v_4 I hgl hml PyProof.Rows.boot_list (PyProof.Rows.callWith_type1 ?_ hs2 rfl));rw [hs2];show wpAny _ _ (spliced ((false,eval (.Call (.Name "range" p') [a] [] pos') X.env)::backTo pos (starEach [] X.env))) _ _ s;refine Calls.spliced_cons ?_;refine Call_ (v_4 I hg hm boot_range (PyProof.Rows.callWith_type1 (thn (ha pos' zd s σ H _ I (tDa.seq g0 s0 o (P:=fun vs H1=>∃j G1,Same G1 H1∧vs= [.int j]∧j.natAbs < 4611686018427387904∧j.toNat≤16777216∧Out X.K (EX σ) G1 H1 (.ok (.ow (.lst (d_8 0 j.toNat)))) Q) fun ds vs G' H' _ st r o'=> ?_)) fun us s1 ⟨vs,H1,I1,r1,q1⟩=> ?_) hs rfl))
 ·cases r with
  |nil=>exact False.elim o'
  |cons h t=>
   cases t with
   |cons _ _=>cases h <;> exact False.elim o'
   |nil=>
    cases h with
    |int j=>
     simp only [p_1] at o'
     split at o'
     ·rename_i hj;simp only [R.bind_ok,p_0] at o'
      split at o'
      ·rename_i hl;exact⟨j,G',st.gh,rfl,hj,hl,o'⟩
      ·exact o'.elim
     ·exact o'.elim
    |_=>exact False.elim o'
 ·obtain⟨j,G1,sg,rfl,hj,hl,o'⟩:=q1;obtain⟨u,rfl,t,rfl⟩:=r1.one;refine call_range_1 ?_;refine Calls.spliced_nil ?_;have hl':(j - 0).toNat≤16777216:=by simpa using hl
  refine bg_1 hc I1 (by omega) (by omega) (by omega) (by omega) hl' ?_;rw [Int.sub_zero];exact v_7 o' sg (bw_9 0 _)
def gP(i j:Nat):FG:=fun d Δ=>match d with
 | .tup [a,b]=> .ok ((Δ.set i (.sh a)).set j (.sh b))
 | .lst [a,b]=> .ok ((Δ.set i (.sh a)).set j (.sh b))
 |_=> .no
theorem ay_7{i j k:Nat}{x y:Str}{p1 p2:Pos}(hc:X.calm=true)(hN:X.N.Nodup)(hi:X.N[i]? =some x:=by rfl)(hj:X.N[j]? =some y:=by rfl)(hx:Loc X.env.scope x:=by first|exact Or.inl rfl|exact Or.inr rfl)(hy:Loc X.env.scope y:=by first|exact Or.inl rfl|exact Or.inr rfl)
  (hf:X.fn x=true∨X.env.scope.names.lookup x=some .local:=by first|exact .inl rfl|exact .inr rfl|assumption) (hf2:X.fn y=true∨X.env.scope.names.lookup y=some .local:=by first|exact .inl rfl|exact .inr rfl|assumption)
  (hn:(assignEach [.Name x p1, .Name y p2] X.env).length=2:=by rfl) (hst:(assignEach [.Name x p1, .Name y p2] X.env).findIdx? (·.1)=none:=by rfl)
  (hs:(assignEach [.Name x p1, .Name y p2] X.env).map (·.2)=assign (.Name x p1) X.env::(assignEach [.Name y p2] X.env).map (·.2):=by rfl) (hs2:(assignEach [.Name y p2] X.env).map (·.2)=assign (.Name y p2) X.env::(assignEach [] X.env).map (·.2):=by rfl):
  GD X EX (.Tuple [.Name x p1, .Name y p2] k pos) (gP i j):=
 PG.imp (cv_2 hc (ad_8 (aa_2 hN hi hx hf) (ad_8 (aa_2 hN hj hy hf2) bp_4 hs2) hs) hn hst) fun v σ H Q ⟨H0,G0,G,Δ,O,d,E,r,q⟩=>by
  cases r with
  |tup h r=>
   cases r with
   |nil=>exact False.elim q
   |cons r1 r=>
    cases r with
    |nil=>exact False.elim q
    |cons r2 r=>
     cases r with
     |nil=>exact⟨_,_,rfl, .inl (Same.tupS E.st.gh h),rfl,_,_,rfl,_,_,rfl,rfl,q _ G H O ((E.put r1).put r2) (Same.refl _)⟩
     |cons _ _=>exact False.elim q
  |lst h r=>
   cases r with
   |nil=>exact False.elim q
   |cons r1 r=>
    cases r with
    |nil=>exact False.elim q
    |cons r2 r=>
     cases r with
     |nil=>exact⟨_,_,rfl, .inr (E.st.gh.seq h),rfl,_,_,rfl,_,_,rfl,rfl,q _ G H O ((E.put r1).put r2) (Same.refl _)⟩
     |cons _ _=>exact False.elim q
  |_=>exact False.elim q
def sUnp(fg:FG)(js:List Nat)(f:FE):FS:=fun Δ=>match f (vsh (gsome js Δ)) with
 | .ok w=>(match fg w.d (gsome js Δ) with
  | .ok Δ'=> .nx Δ'
  |_=> .no)
 | .ex x=> .ex x (gsome js Δ)
 | .no=> .no
theorem bn_1{fg:FG}(js:List Nat){e tg:Expr}(he:ED X EX e f)(hg:GD X EX tg fg)(hs:swapsWithSole [tg] e pos.line X.env=pure false:=by rfl)(hw:swappedStores [tg] e X.env=pure none:=by rfl)
  (h1:(assignEach [tg] X.env).map (·.2)= [assign tg X.env]:=by rfl):SD X EX (.Assign [tg] e pos) (sUnp fg js f):=
 PS.imp (cs_0 he hg hs hw h1) fun D σ H ⟨H0,G0,G,Δ,O,E,q⟩=>by
  obtain⟨G1,O1,sg,E1⟩:=E.gsome js;unfold sUnp at q;refine⟨G1,vsh (gsome js Δ),E1.st.gh,E1.gsh, ?_⟩;cases e1:f (vsh (gsome js Δ)) with
  |ok w=>
   simp only [e1] at q;refine WP.intro fun v G' H' st r=>⟨H0,G0,G',gsome js Δ,O1,w.d,E1.grow st,r, ?_⟩;cases e2:fg w.d (gsome js Δ) with
   |ok Δ'=>simp only [e2] at q;exact fun σ' G2 H2 O2 E2 s2=>q σ' G2 H2 O2 E2 (sg.trans (st.gg.trans s2))
   |ex x=>simp only [e2] at q;exact q.elim
   |no=>simp only [e2] at q;exact q.elim
  |ex x=>simp only [e1] at q;exact q σ G1 H O1 E1 sg
  |no=>simp only [e1] at q;exact q.elim
end
section
variable{K:Frag}{x qual:Str}{st:Stmt}{f:Addr}{fd:FuncData}{ps:List Str}
theorem Fun.binds1(F:Fun K x qual st f fd)(hl:ps.length=1:=by rfl)(h:∀(kV doc pm:Value) (an:Option Addr) (zn ct a:Value),bindArgs (fnOf x qual (h_4 st) (e_2 st) (b_0 st) .none kV doc pm an zn ct) ⟨[a], []⟩=pure (ps.zip [a]):=by intros;rfl):Binds K fd ps []:=
 F.binds fun kV doc pm an zn ct us hu=>match us,hu.trans hl with| [a],_=>h kV doc pm an zn ct a
theorem Fun.binds2(F:Fun K x qual st f fd)(hl:ps.length=2:=by rfl)(h:∀(kV doc pm:Value) (an:Option Addr) (zn ct a b:Value),bindArgs (fnOf x qual (h_4 st) (e_2 st) (b_0 st) .none kV doc pm an zn ct) ⟨[a,b], []⟩=pure (ps.zip [a,b]):=by intros;rfl):Binds K fd ps []:=
 F.binds fun kV doc pm an zn ct us hu=>match us,hu.trans hl with| [a,b],_=>h kV doc pm an zn ct a b
theorem Fun.binds3(F:Fun K x qual st f fd)(hl:ps.length=3:=by rfl)(h:∀(kV doc pm:Value) (an:Option Addr) (zn ct a b c:Value),bindArgs (fnOf x qual (h_4 st) (e_2 st) (b_0 st) .none kV doc pm an zn ct) ⟨[a,b,c], []⟩=pure (ps.zip [a,b,c]):=by intros;rfl):Binds K fd ps []:=
 F.binds fun kV doc pm an zn ct us hu=>match us,hu.trans hl with| [a,b,c],_=>h kV doc pm an zn ct a b c
theorem Fun.binds4(F:Fun K x qual st f fd)(hl:ps.length=4:=by rfl)(h:∀(kV doc pm:Value) (an:Option Addr) (zn ct a b c d:Value),bindArgs (fnOf x qual (h_4 st) (e_2 st) (b_0 st) .none kV doc pm an zn ct) ⟨[a,b,c,d], []⟩=pure (ps.zip [a,b,c,d]):=by intros;rfl):Binds K fd ps []:=
 F.binds fun kV doc pm an zn ct us hu=>match us,hu.trans hl with| [a,b,c,d],_=>h kV doc pm an zn ct a b c d
end
structure ZApart(z TI TO i1 i2:Addr):Prop where
 TIz:TI≠z
 TOz:TO≠z
 i1z:i1≠z
 i2z:i2≠z
 TITO:TI≠TO
 TIi1:TI≠i1
 TIi2:TI≠i2
 TOi1:TO≠i1
 TOi2:TO≠i2
 i12:i1≠i2
section
variable{X:Cx}{EX:EXS}{a b:Expr}{fa:FA}{elts:List Expr}{x1:Nat}{tp p pos:Pos}
end
def met(is:List Int):List Int:=PyProof.Rows.firstMet (fun i=>is.getD i 0) is.length
def am_0:D→R W
 | .lst ds=>match y_2 ds with
  |some is=>if is.length≤4000 then .ok (.sh (.int (met is).length)) else .no
  |none=> .no
 |_=> .no
def ae_8(f:FE):FE:=fun δ=>(f δ).bind fun w=>am_0 w.d
theorem bg_2{G:Hp}:∀{vs:List V} {ds:List D} {us:List Value} {is:List Int},HasL K G vs ds→Vals vs us→y_2 ds=some is→IntsAre us is
 |_,_,_,_, .nil,r,e=>by cases r;cases e;exact .nil
 |_,_,_,_, .cons h t,r,e=>by
  cases r with
  |cons r1 r2=>
   cases h with
   |int x=>
    obtain⟨tk,rfl⟩:=r1;simp only [y_2] at e;obtain⟨zs,q,rfl⟩:=Option.map_eq_some_iff.mp e;exact .cons x tk (bg_2 t r2 q)
   |_=>cases e
section
variable{X:Cx}{EX:EXS}{a:Expr}{f:FE}{p p' pos pos':Pos}
theorem av_2(hc:X.calm=true)(hml:X.mg "len" =none)(hm:X.mg "set" =none)(ha:ED X EX a f)(hgl:Gl X "len" :=by rfl)(hg:Gl X "set" :=by rfl)
  (hs:starEach [a] X.env=(false,eval a X.env)::starEach [] X.env:=by rfl)
  (hs2:starEach [.Call (.Name "set" p') [a] [] pos'] X.env=(false,eval (.Call (.Name "set" p') [a] [] pos') X.env)::starEach [] X.env:=by rfl) (hpl:(backTo pos (starEach [] X.env)).any (·.1)=false:=by rfl) (du:(backTo pos' (starEach [] X.env)).any (·.1)=false:=by rfl):
  ED X EX (.Call (.Name "len" p) [.Call (.Name "set" p') [a] [] pos'] [] pos) (ae_8 f):=by
 intro zd s σ H Q I q;obtain⟨G,δ,g0,s0,o⟩:=q;refine Call_ (v_4 I hgl hml PySem.boot_len (PyProof.Rows.callWith_builtin1 ?_ hs2 hpl));rw [hs2];show wpAny _ _ (spliced ((false,eval (.Call (.Name "set" p') [a] [] pos') X.env)::backTo pos (starEach [] X.env))) _ _ s;refine Calls.spliced_cons ?_;refine Call_ (v_4 I hg hm PyProof.Rows.boot_set (PyProof.Rows.callWith_type1 ?_ hs du));rw [hs];show wpAny _ _ (spliced ((false,eval a X.env)::backTo pos' (starEach [] X.env))) _ _ s;refine Calls.spliced_cons (thn (ha zd s σ H _ I (tD.seq g0 s0 o (P:=fun v H1=>∃l ds vs is G1,Same G1 H1∧v= .ref l∧SqL X.K G1 l vs∧HasL X.K G1 vs ds∧y_2 ds=some is∧is.length≤4000∧Out X.K (EX σ) G1 H1 (.ok (.sh (.int (met is).length))) Q) fun w v G' H' _ st r o'=> ?_)) fun u s1 ⟨v,H1,I1,r1,q1⟩=>Calls.spliced_nil ?_)
 ·revert r o';cases w.d with
  |lst ds=>
   intro r o';cases r with
   |lst h r=>
    simp only [am_0] at o'
    split at o'
    ·rename_i is e
     split at o'
     ·rename_i hl;exact⟨_,ds,_,is,G',st.gh,rfl,h,r,e,hl,o'⟩
     ·exact o'.elim
    ·exact o'.elim
  |_=>intro _ o';exact False.elim o'
 ·obtain⟨l,ds,vs,is,G1,sg,rfl,hq,r,e,hl,o'⟩:=q1;cases r1;obtain⟨its,rv,pl,hz⟩:=I1.list (sg.seq hq);have ia:=bg_2 r rv e;have il:its.length=is.length:=ia.length;refine PySem.call_set_list (ns:=is) (I1.ok.hd hc) pl.isList (by simpa using ia) (by rw [List.size_toArray,il];show is.length + 1 < 4096;omega) fun h' tk so kk=> ?_;refine Calls.spliced_nil ?_;obtain⟨ob,es,ep,t,ho,hex,hd,_,_,hb,hf,hn⟩:=so;have hb':es.size < 4096:=hb;refine PySem.call_len_set ho hex hd hf (by omega) ?_;rw [hn,List.size_toArray,il];exact⟨.int _,H1,I1.kept (t':=_) fun b ob hbo=>kk b ob (Heap.lt_size hbo) hbo,⟨_,rfl⟩,d_6 o' sg (.int _)⟩
end
def mulT:D→D→R W
 | .str x, .int n=>if n.natAbs≤1000∧x.length≤1000 then .ok (.sh (.str (repS x n.toNat))) else .no
 |_,_=> .no
theorem cd_6(x:Str):repS x 1=x:=by
 obtain⟨a⟩:=x;show(⟨#[] ++ a⟩:Str)=⟨a⟩;rw [Array.empty_append]
theorem br_2:OpD X (binaryOp .Mult) mulT:=by
 intro zd s σ H x y v u Q I rx ry q;obtain⟨EX,G,a,b,g,ra,rb,o⟩:=q;cases ra with
 |str z=>
  cases rb with
  |int n=>
   simp only [mulT] at o
   split at o
   ·rename_i h;obtain⟨t,rfl⟩:=rx;obtain⟨t',rfl⟩:=ry;obtain⟨h1,h4⟩:=h;have hz:(repS z n.toNat).length≤sizeLine:=by
     rw [ao_4,sizeLine_eq];have:n.toNat≤1000:=by omega
     calc n.toNat * z.length≤1000 * 1000:=Nat.mul_le_mul this h4
      _≤16777216:=by decide
    refine P.mul_str ?_ (fun hn hb=> ?_) (fun _ _=> ?_) ?_
    ·have p1:¬n < -(2 ^ 63:Int):=by omega
     have p2:¬n≥2 ^ 63:=by omega
     rw [decide_eq_false p1,decide_eq_false p2];rfl
    ·have:(1000:Int)≤(2 ^ 63 - 1) / n:=by
      rw [Int.le_ediv_iff_mul_le (by omega)];omega
     omega
    ·rw [ao_4,Nat.mul_comm] at hz;unfold Builtin.Str.tooLong;exact decide_eq_false (Nat.not_lt.mpr hz)
    ·by_cases e1:n < 1
     ·rw [if_pos e1];have e0:n.toNat=0:=by omega
      rw [e0] at o;exact⟨by show(0:Nat)≤sizeLine;exact Nat.zero_le _,⟨.str _,H,I.tok _,⟨_,rfl⟩,d_6 o g (.str _)⟩⟩
     ·rw [if_neg e1]
      by_cases e2:(n ==1 || z.length ==0)=true
      ·rw [if_pos e2];have ez:repS z n.toNat=z:=by
        rw [Bool.or_eq_true] at e2;rcases e2 with e2|e2
        ·have:n=1:=by simpa using e2
         subst this;exact cd_6 z
        ·have hl0:z.length=0:=by simpa using e2
         have h2:=ao_4 z n.toNat;rw [hl0,Nat.mul_zero] at h2;have z0:∀y:Str,y.length=0→y=⟨#[]⟩:=fun y hy=>by
          obtain⟨c⟩:=y;have:c= #[]:=Array.eq_empty_of_size_eq_zero hy;rw [this]
         rw [z0 _ h2,z0 _ hl0]
       rw [ez] at o;exact⟨.str _,H,I,⟨_,rfl⟩,d_6 o g (.str _)⟩
      ·rw [if_neg e2];exact⟨hz,⟨.str _,H,I.tok _,⟨_,rfl⟩,d_6 o g (.str _)⟩⟩
   ·exact o.elim
  |_=>exact False.elim o
 |_=>cases rb <;> exact False.elim o
def keyD:D→Option Key
 | .int i=>some (.inl i)
 | .str x=>some (.inr x)
 |_=>none
theorem cd_7{G:Hp}{d:D}{k:Key}(r:Has K G v d)(e:keyD d=some k):v=kV k:=by
 cases r <;> first|(cases e;rfl)|cases e
section
variable{α:Type}
def valA(kvs:List (Key×α))(k:Key):Option α:=(kvs.find? fun kv=>decide (kv.1=k)).map (·.2)
def putA(kvs:List (Key×α))(k:Key)(v:α):List (Key×α):=if(kvs.any fun kv=>decide (kv.1=k))=true then kvs.map (fun kv=>if kv.1=k then(kv.1,v) else kv) else kvs ++ [(k,v)]
def hasA(kvs:List (Key×α))(k:Key):Bool:=(valA kvs k).isSome
end
theorem cl_9(kvs:List (Key×V))(k:Key)(v:V):putK kvs k v=putA kvs k v:=rfl
theorem br_3{G:Hp}:∀{kvs:List (Key×V)} {kds:List (Key×D)} (k:Key),kvs.map (·.1)=kds.map (·.1)→HasL K G (kvs.map (·.2)) (kds.map (·.2))→(x_7 kvs k).isSome=hasA kds k∧∀d,valA kds k=some d→∃v,x_7 kvs k=some v∧Has K G v d
 | [], [],k,_,_=>⟨rfl,fun d e=>by cases e⟩
 | [],_::_,k,e,_=>by simp at e
 |_::_, [],k,e,_=>by simp at e
 |(x,v)::kvs,(y,d)::kds,k,e,r=>by
  simp only [List.map_cons,List.cons.injEq] at e;obtain⟨e1,e2⟩:=e;subst e1;cases r with
  |cons h r=>
   obtain⟨i1,i2⟩:=br_3 (kvs:=kvs) (kds:=kds) k e2 r
   by_cases q:x=k
   ·have a1:x_7 ((x,v)::kvs) k=some v:=ae_3 q;have a2:valA ((x,d)::kds) k=some d:=by unfold valA;rw [List.find?_cons_of_pos (by simpa using q)];rfl
    refine⟨by unfold hasA;rw [a1,a2];rfl,fun d' e'=> ?_⟩;rw [a2] at e';cases e';exact⟨v,a1,h⟩
   ·have a1:x_7 ((x,v)::kvs) k=x_7 kvs k:=ae_4 q;have a2:valA ((x,d)::kds) k=valA kds k:=by unfold valA;rw [List.find?_cons_of_neg (by simpa using q)]
    refine⟨by unfold hasA at i1⊢;rw [a1,a2];exact i1,fun d' e'=> ?_⟩;rw [a2] at e';rw [a1];exact i2 d' e'
theorem bg_4{α β:Type}:∀{kvs:List (Key×α)} {kds:List (Key×β)} (k:Key),kvs.map (·.1)=kds.map (·.1)→(kvs.any fun kv=>decide (kv.1=k))=kds.any fun kv=>decide (kv.1=k)
 | [], [],_,_=>rfl
 | [],_::_,k,e=>by simp at e
 |_::_, [],k,e=>by simp at e
 |(x,v)::kvs,(y,d)::kds,k,e=>by
  simp only [List.map_cons,List.cons.injEq] at e;obtain⟨e1,e2⟩:=e;subst e1;rw [List.any_cons,List.any_cons,bg_4 k e2]
theorem cm_0{G:Hp}{kvs:List (Key×V)}{kds:List (Key×D)}(k:Key){d:D}(e:kvs.map (·.1)=kds.map (·.1))(r:HasL K G (kvs.map (·.2)) (kds.map (·.2)))(h:Has K G v d):
  (putK kvs k v).map (·.1)=(putA kds k d).map (·.1)∧HasL K G ((putK kvs k v).map (·.2)) ((putA kds k d).map (·.2)):=by
 rw [cl_9];unfold putA;rw [bg_4 k e]
 split
 ·have all:∀{kvs:List (Key×V)} {kds:List (Key×D)},kvs.map (·.1)=kds.map (·.1)→HasL K G (kvs.map (·.2)) (kds.map (·.2))→
    (kvs.map (fun kv=>if kv.1=k then(kv.1,v) else kv)).map (·.1)=(kds.map (fun kv=>if kv.1=k then(kv.1,d) else kv)).map (·.1)∧HasL K G ((kvs.map (fun kv=>if kv.1=k then(kv.1,v) else kv)).map (·.2)) ((kds.map (fun kv=>if kv.1=k then(kv.1,d) else kv)).map (·.2)):=by
   intro kvs
   induction kvs with
   |nil=>
    intro kds e r;cases kds with
    |nil=>exact⟨rfl, .nil⟩
    |cons _ _=>simp at e
   |cons p kvs ih=>
    intro kds e r;cases kds with
    |nil=>simp at e
    |cons q kds=>
     obtain⟨x,u⟩:=p;obtain⟨y,w⟩:=q;simp only [List.map_cons,List.cons.injEq] at e;obtain⟨e1,e2⟩:=e;subst e1;cases r with
     |cons h1 r=>
      obtain⟨i1,i2⟩:=ih e2 r;simp only [List.map_cons]
      by_cases z:x=k
      ·simp only [z,if_true];exact⟨by rw [i1], .cons h i2⟩
      ·simp only [z,if_false];exact⟨by rw [i1], .cons h1 i2⟩
  exact all e r
 ·refine⟨by rw [List.map_append,List.map_append,e];rfl, ?_⟩;rw [List.map_append,List.map_append];exact r.append (.cons h .nil)
section
variable{X:Cx}{EX:EXS}{pos:Pos}
def br_4:FE:=fun _=> .ok (.ow (.dic []))
theorem cm_1:ED X EX (.Dict [] [] pos) br_4:=PE.imp cc_5 fun σ H Q ⟨G,δ,g,s,o⟩=>fun p hp=>
 o (.ref p) (fun b=>b=p) G _ (Step.own g hp _) (fun a e=>by subst e;exact⟨hp,g.free hp,by rw [b_4];simp⟩) (.dict b_4 rfl rfl .nil)
def inK(neg:Bool):D→D→R W
 |d, .dic kvs=>match keyD d with
  |some k=> .ok (.sh (.bl (if neg then !hasA kvs k else hasA kvs k)))
  |none=> .no
 |_,_=> .no
theorem DGet.rd{a:Addr}{kvs:List (Key×V)}{k:Key}(e:Rd H a (.dK kvs)):DGet H a (kV k) (x_7 kvs k):= .inl ⟨kvs,k,e,rfl,rfl⟩
theorem cv_9(hu:X.A.units + 64 < cLine):OpD X (compareOp .In) (inK false):=by
 intro zd s σ H x y v u Q I rx ry q;obtain⟨EX,G,a,b,g,ra,rb,o⟩:=q;cases rb with
 |dic h hk r=>
  simp only [inK] at o
  split at o
  ·rename_i k ek;have ex:=cd_7 ra ek;subst ex;cases ry;refine d_in (by omega) I (DGet.rd (k:=k) (Same.rdD g h)) rx fun s' I'=>⟨.bl _,H,I',rfl, ?_⟩;rw [(br_3 k hk r).1];exact d_6 o g (.bl _)
  ·exact o.elim
 |_=>exact False.elim o
def br_5(i:Nat)(js:List Nat)(fk fe:FE):FS:=fun Δ=>match(gsome js Δ)[i]? with
 |some (.ow (.dic kvs))=>(match fe (vsh (gsome js Δ)) with
  | .ok w=>(match fk (vall (gsome js Δ)) with
   | .ok z=>(match keyD z.d with
    |some k=>if kvs.length < 16777216 then .nx ((gsome js Δ).set i (.ow (.dic (putA kvs k w.d)))) else .no
    |none=> .no)
   |_=> .no)
  |_=> .no)
 |_=> .no
theorem cm_2{i:Nat}(js:List Nat){x:Str}{e ie:Expr}{fe fk:FE}{p1 zi pos:Pos}(hu:X.A.units + 64 < cLine)(he:ED X EX e fe)(hi:ED X EX ie fk)(hN:X.N[i]? =some x:=by rfl)(hv:Vis X.env.scope x:=by first|exact Or.inl rfl|exact Or.inr (Or.inl rfl)|exact Or.inr (Or.inr rfl))(hd:(x ==("__debug__" :Str))=false:=by decide)
  (hcd:(x ==("__classdict__" :Str))=false:=by decide) (hs:swapsWith e (some (.Subscript (.Name x p1) ie zi)) pos.line X.env=pure false:=by rfl):
  SD X EX (.Assign [.Subscript (.Name x p1) ie zi] e pos) (br_5 i js fk fe):=
 PS.imp (ck_5 (by omega) (o_7 hN hv hd hcd) hi he hs) fun D σ H ⟨H0,G0,G,Δ,O,E,q⟩=>by
  obtain⟨G1,O1,sg,E1⟩:=E.gsome js;unfold br_5 at q;generalize gsome js Δ=Δ1 at q E1
  split at q
  ·rename_i kds e1;obtain⟨v0,s1,t⟩:=E1.ow i _ _ e1 rfl;obtain⟨a,kvs,rfl,m,hH,hk,rl⟩:=t.dict_of;refine⟨G1,vsh Δ1,E1.st.gh,E1.gsh, ?_⟩;cases e2:fe (vsh Δ1) with
   |ex x=>rw [e2] at q;exact q.elim
   |no=>rw [e2] at q;exact q.elim
   |ok w=>
    simp only [e2] at q;refine WP.intro fun v G' H' st r=> ?_;have E2:=E1.grow st;refine⟨.ref a,s1,allG G' H' O1,vall Δ1,E2.aH,E2.gall, ?_⟩;cases e3:fk (vall Δ1) with
    |ex x=>simp only [e3] at q;exact q.elim
    |no=>simp only [e3] at q;exact q.elim
    |ok z=>
     simp only [e3] at q;refine WP.intro fun v2 G2 H2 st2 r2=> ?_
     split at q
     ·rename_i k ek
      split at q
      ·rename_i hl;have e4:=cd_7 r2 ek;subst e4;have hH2:H2 a=some (.dK kvs):=st2.hh _ _ (st.hh _ _ hH);have hle:kvs.length=kds.length:=by
        have:=congrArg List.length hk
        rwa [List.length_map,List.length_map] at this
       obtain⟨p1,p2⟩:=cm_0 k hk (rl.mono st.gg) r;exact⟨a,_,rfl,DPut.k hH2 (by rw [hle,sizeLine_eq];exact hl),q σ G' _ _ ((E2.keep st2.hh).writeD s1 m p1 p2) (sg.trans st.gg)⟩
      ·exact q.elim
     ·exact q.elim
  ·exact q.elim
end
section
variable{K:Frag}{H0 H1:HB}{G0 G H:Hp}{σ:Sg}{Δ:SE}{O:OS}
end
section
variable{X:Cx}{EX:EXS}{pos:Pos}
end
section
variable{X:Cx}{EX:EXS}{pos:Pos}
end
section
variable{X:Cx}{EX:EXS}{a b:Expr}{fa:FA}{p pos:Pos}
end
section
variable{K:Frag}{G H:Hp}
theorem OwL.append:∀{vs us:List V} {ts rs:List Tn} {S1 S2 S:AS},OwL K G H vs ts S1→OwL K G H us rs S2→(∀b,S1 b→S2 b→False)→(∀b,S1 b→S b)→(∀b,S2 b→S b)→OwL K G H (vs ++ us) (ts ++ rs) S
 |_,_,_,_,_,_,_, .nil,r,_,_,i2=>r.mono (Same.refl _) (fun _ _ _ q=>q) i2
 |_,_,_,_,S1,S2,S, .cons (S1:=Sa) (S2:=Sb) h r dj s1 s2,q,d,i1,i2=>
  .cons (S2:=fun b=>Sb b∨S2 b) h (OwL.append r q (fun b z1 z2=>d b (s2 b z1) z2) (fun b z=> .inl z) fun b z=> .inr z) (fun b z1 z2=>by
   rcases z2 with z2|z2
   ·exact dj b z1 z2
   ·exact d b (s1 b z1) z2) (fun b z=>i1 b (s1 b z)) fun b z=>by
   rcases z with z|z
   ·exact i1 b (s2 b z)
   ·exact i2 b z
end
section
variable{α:Type}
end
section
variable{K:Frag}{G H:Hp}
end
section
variable{X:Cx}{EX:EXS}{pos:Pos}
end
section
variable{X:Cx}{EX:EXS}{pos:Pos}
end
section
variable{X:Cx}{EX:EXS}{pos:Pos}
end
section
variable{X:Cx}{EX:EXS}{pos:Pos}
def bg_5(i j:Nat):FS:=fun Δ=>match Δ[j]? with
 |some (.ow (.lst ds))=>(match ds[ds.length - 1]? with
  |some d=> .nx ((Δ.set j (.ow (.lst ds.dropLast))).set i (.sh d))
  |none=> .no)
 |_=> .no
theorem HasL.dropLast{G:Hp}{ds:List D}(h:HasL K G vs ds):HasL K G vs.dropLast ds.dropLast:=by
 rw [List.dropLast_eq_take,List.dropLast_eq_take,h.length];exact h.take _
theorem cm_3{i j:Nat}{x y:Str}{p1 p2 zh zf:Pos}(hN:X.N.Nodup)(hi:X.N[i]? =some x:=by rfl)(hx:Loc X.env.scope x:=by first|exact Or.inl rfl|exact Or.inr rfl)(hj:X.N[j]? =some y:=by rfl)(hv:Vis X.env.scope y:=by first|exact Or.inl rfl|exact Or.inr (Or.inl rfl)|exact Or.inr (Or.inr rfl))(hd:(y ==("__debug__" :Str))=false:=by decide)
  (hcd:(y ==("__classdict__" :Str))=false:=by decide) (hs:swapsWith (.Call (.Attribute (.Name y p1) "pop" zh) [] [] zf) (some (.Name x p2)) pos.line X.env=pure false:=by rfl)
  (hf:X.fn x=true∨X.env.scope.names.lookup x=some .local:=by first|exact .inl rfl|exact .inr rfl|assumption)
  (aa:attributeBase (.Name y p1) "pop" X.env (eval (.Name y p1) X.env)=eval (.Name y p1) X.env:=by rfl) (ae:(zh.endLine ==zf.line)=true:=by rfl):
  SD X EX (.Assign [.Name x p2] (.Call (.Attribute (.Name y p1) "pop" zh) [] [] zf) pos) (bg_5 i j):=
 PS.imp (ca_2 hN hi hx (ct_7 PySem.F.plainAttrs_list PySem.F.slot_list_pop PySem.F.type_list_pop ct_8 (o_7 hj hv hd hcd) aa ae) hs hf) fun D σ H ⟨H0,G0,G,Δ,O,E,q⟩=>by
  unfold bg_5 at q
  split at q
  ·rename_i ds e1;obtain⟨v0,s1,t⟩:=E.ow j _ _ e1 rfl;obtain⟨a,vs,rfl,m,hH,rl⟩:=t.list_of
   split at q
   ·rename_i d e2;rw [←rl.length] at e2;obtain⟨v,e3,hv⟩:=rl.get e2;exact⟨.ref a,s1, .inl ⟨rfl,_,SqL.of hH⟩,a,vs,v,rfl,rfl,hH,e3,q _ G _ _ ((E.writeL s1 m rl.dropLast).put hv) (Same.refl _)⟩
   ·exact q.elim
  ·exact q.elim
theorem HasL.eraseIdx{G:Hp}:∀{vs:List V} {ds:List D} (n:Nat),HasL K G vs ds→HasL K G (vs.eraseIdx n) (ds.eraseIdx n)
 |_,_,_, .nil=> .nil
 |_,_,0, .cons _ r=>r
 |_,_,n + 1, .cons h r=> .cons h (HasL.eraseIdx n r)
end
section
variable{X:Cx}{EX:EXS}{e:Expr}{es:List Expr}{x:Str}{pp pos:Pos}{c:Bool}{k k':Nat}{ps:List Str}
end
def OFld(K:Frag)(cs:List Str)(f:Str):Prop:=∀c,cs.contains c=true→∀C,ClsAt K c C→Cls K C∧NoAttr K C f
theorem OFld.nil{f:Str}:OFld K [] f:=fun c h=>by cases h
theorem ClsAt.same{c:Str}{C C':Addr}(a:ClsAt K c C)(b:ClsAt K c C'):C'=C:=by
 unfold ClsAt at a b;rw [a] at b;injection b with b
 injection b with b
 injection b with b
 exact b.symm
theorem OFld.one{c:Str}{C:Addr}{cs:List Str}{f:Str}(a:ClsAt K c C)(k:Cls K C)(n:NoAttr K C f)(r:OFld K cs f):OFld K (c::cs) f:=fun c' h C' a'=>by
 rw [List.contains_cons,Bool.or_eq_true] at h;rcases h with h|h
 ·have e:=beq_iff_eq.mp h;subst e;rw [a.same a'];exact⟨k,n⟩
 ·exact r c' h C' a'
def eFld(cs:List Str)(f:Str)(fo:FE):FE:=fun δ=>(fo δ).bind fun w=>match w.d with
 | .obj c ns vs=>if cs.contains c then(match(ns.zip vs).lookup f with
  |some d=> .ok (.sh d)
  |none=> .no) else .no
 |_=> .no
theorem az_0{G:Hp}{f:Str}:∀{ns:List Str} {us:List V} {vs:List D},HasL K G us vs→ns.length=us.length→(∀d,(ns.zip vs).lookup f=some d→∃v,(ns.zip us).lookup f=some v∧Has K G v d)∧(ns.contains f=false→(ns.zip us).lookup f=none)
 | [],_,_,_,_=>⟨fun d e=>(by cases e),fun _=>rfl⟩
 |n::ns, [],_,_,e=>by simp at e
 |n::ns,u::us,_, .cons h r,e=>by
  obtain⟨i1,i2⟩:=az_0 (f:=f) (ns:=ns) r (by simpa using e);refine⟨fun d q=> ?_,fun q=> ?_⟩
  ·rw [List.zip_cons_cons,List.lookup_cons] at q⊢;cases hb:f ==n with
   |true=>simp only [hb] at q⊢;cases q;exact⟨u,rfl,h⟩
   |false=>simp only [hb] at q⊢;exact i1 d q
  ·rw [List.contains_cons,Bool.or_eq_false_iff] at q;rw [List.zip_cons_cons,List.lookup_cons];simp only [q.1];exact i2 q.2
section
variable{X:Cx}{EX:EXS}{e:Expr}{pos:Pos}
theorem ah_6{cs:List Str}{f:Str}{fo:FE}(k:OFld X.K cs f)(he:ED X EX e fo)(hb:attributeBase e f X.env (eval e X.env)=eval e X.env:=by rfl):ED X EX (.Attribute e f pos) (eFld cs f fo):=
 PE.imp (ct_2 he hb) fun σ H Q ⟨G,δ,g0,s0,o⟩=>tD.seq g0 s0 o fun w v G1 H1 _ st r o'=>by
  revert o' r;cases w.d with
  |obj c ns vs=>
   intro r o';simp only at o'
   split at o'
   ·rename_i hc
    split at o'
    ·rename_i d ed;cases r with
     |obj hC hh hl rl=>
      obtain⟨v1,e1,h1⟩:=(az_0 (f:=f) rl hl).1 d ed;obtain⟨kc,kn⟩:=k c hc _ hC;exact⟨_,_,_,_,v1,rfl,st.gh _ _ hh,kc,kn,e1,d_6 o' st.gh h1⟩
    ·exact o'.elim
   ·exact o'.elim
  |_=>intro _ o';exact False.elim o'
end
structure MethD(P:Program)(w:World)(K:Frag)(mg:Str→Option Value)(base:Heap)(cc:Bool)(k n:Nat)(m c:Str)(F:List D→R W):Prop where
 ex:∃C f fd ps,ClsAt K c C∧Cls K C∧Meth K C m f∧FnX P w K mg base cc k f fd ps (spX K (n + 1) F)∧Binds K fd ps []
def MethT(P:Program)(w:World)(K:Frag)(mg:Str→Option Value)(base:Heap)(cc:Bool)(k n:Nat)(m:Str)(tb:List (Str×(List D→R W))):Prop:=∀c F,tb.lookup c=some F→MethD P w K mg base cc k n m c F
theorem MethT.nil{w:World}{cc:Bool}{k n:Nat}{m:Str}:MethT P w K mg base cc k n m []:=fun c F e=>by cases e
theorem FnX.up{w:World}{c:Bool}{j k:Nat}{f:Addr}{ps:List Str}{sp:Sp}(F:FnX P w K mg base c j f fd ps sp)(h:j≤k):FnX P w K mg base c k f fd ps sp:=
 ⟨F.len,fun A outer s H args us vs Q E hr=>F.run A outer s H args us vs Q E (hr.mono h)⟩
theorem MethT.one{w:World}{cc:Bool}{j k n:Nat}{m c:Str}{F:List D→R W}{tb:List (Str×(List D→R W))}(d:MethD P w K mg base cc j n m c F)(hj:j≤k)(r:MethT P w K mg base cc k n m tb):MethT P w K mg base cc k n m ((c,F)::tb):=fun c' F' e=>by
 rw [List.lookup_cons] at e;cases hb:c' ==c with
 |true=>
  simp only [hb] at e;cases e;have:=beq_iff_eq.mp hb;subst this;obtain⟨C,f,fd,ps,a1,a2,a3,a4,a5⟩:=d.ex;exact⟨C,f,fd,ps,a1,a2,a3,a4.up hj,a5⟩
 |false=>simp only [hb] at e;exact r c' F' e
def y_3(m:Str)(n:Nat)(tb:List (Str×(List D→R W)))(fo:FE)(fa:FA):FE:=fun δ=>(fo δ).bind fun w=>match w.d with
 | .obj c ns vs=>if ns.contains m then .no else match tb.lookup c with
  |some F=>(fa δ).bind fun ds=>if ds.length=n then F (.obj c ns vs::ds) else .no
  |none=> .no
 |_=> .no
section
variable{X:Cx}{EX:EXS}{e o:Expr}{es:List Expr}{pos zh:Pos}{cc:Bool}{k k' n:Nat}{m:Str}{tb:List (Str×(List D→R W))}{fo:FE}{fa:FA}
def cp_9(X:Cx)(EX:EXS)(cc:Bool)(k:Nat)(m:Str)(ta:TE)(t:TA):TE:=fun σ H Q=>ta σ H fun x H1=>∃a C dx fs f fd ps sp,x= .ref a∧H1 a=some (.ins C dx fs)∧fs.lookup m=none∧Cls X.K C∧Meth X.K C m f∧
 FnX X.prog X.w X.K X.mg X.base cc k f fd ps sp∧Binds X.K fd ps []∧t σ H1 fun vs H2=>sp (.ref a::vs) H2 Q (EXE X.K (EX σ))
theorem cm_4{pl:Sem Bool}{ta:TE}{t:TA}(he:PE X o ta)(hr:RoomC cc k X.A)(lk:Lk X EX)(ha:PA X (e::es) t)
  (hst:starEach (e::es) X.env=(false,eval e X.env)::starEach es X.env) (hpl:(backTo pos (starEach es X.env)).any (·.1)=false)
  (ht:eval (.Call (.Attribute o m zh) (e::es) [] pos) X.env=(do
   let ov←eval o X.env
   standAt zh.atName
   let(f,first)←holding [ov] (getMethod ov m pl)
   callWith pos f first (backTo pos (starEach (e::es) X.env)) (backToKw pos (keywordEach [] X.env)))):
  PE X (.Call (.Attribute o m zh) (e::es) [] pos) (cp_9 X EX cc k m ta t):=by
 intro zd s σ H Q I h;refine methodCall_KW (pl:=pl) (thn (he zd s σ H _ I h) fun u s1 ⟨x,H1,I1,rx,a,C,dx,fs,f,fd,ps,sp,ex,ea,l,c,hm,F,hb,q⟩=> ?_) ht;subst ex;obtain rfl:u=Value.ref a:=rx;refine bl_6 I1 ea c hm l ?_;refine callWith_K (first:= [.ref a]) (h₀:=X.base) I.ok.mod.kin hm.kp (thn (ha pos zd s1 σ H1 _ I1 q) fun us s2 ⟨vs,H2,I2,r,q2⟩=>⟨I2.kIn, ?_⟩) hst hpl;exact ay_4 (us:= .ref a::us) (vs:= .ref a::vs) F hr hb lk I2 (.cons rfl r) q2
theorem cw_0{σ:Sg}{Q:VK}(hK:X.K=K)(T:MethT X.prog X.w X.K X.mg X.base cc k n m tb)(q:tD K EX (y_3 m n tb fo fa) σ H Q):cp_9 X EX cc k m (tD K EX fo) (tDa K EX fa) σ H Q:=by
 subst hK;obtain⟨G,δ,g0,s0,o⟩:=q;refine tD.seq g0 s0 o fun w v G1 H1 _ st r o'=> ?_;revert o' r;cases w.d with
 |obj c ns vs=>
  intro r o';simp only at o'
  split at o'
  ·exact o'.elim
  ·rename_i hn
   split at o'
   ·rename_i F ef;cases r with
    |obj hC hh hl rl=>
     rename_i a0 C0 dx0 us0;obtain⟨C,f,fd,ps,a1,a2,a3,a4,a5⟩:=(T c F ef).ex;have:=a1.same hC;subst this;refine⟨_,_,_,_,f,fd,ps,_,rfl,st.gh _ _ hh,(az_0 (f:=m) rl hl).2 (by simpa using hn),a2,a3,a4,a5, ?_⟩;refine tDa.seq st.gh (s0.mono st.gg) o' fun ds us G' H' _ st' r' o2=> ?_
     split at o2
     ·rename_i zk;refine⟨by rw [List.length_cons,r'.length,zk],G', .obj c ns vs::ds,st'.gh, .cons (Has.mono st'.gg (.obj hC hh hl rl)) r', ?_⟩;cases q:F (.obj c ns vs::ds) with
      |ok w=>rw [q] at o2;exact o2
      |ex x=>rw [q] at o2;exact EXof.in o2
      |no=>rw [q] at o2;exact o2.elim
     ·exact o2.elim
   ·exact o'.elim
 |_=>intro _ o';exact False.elim o'
theorem am_1{pl:Sem Bool}(T:MethT X.prog X.w X.K X.mg X.base cc k n m tb)(hr:RoomC cc k' X.A)(lk:Lk X EX)(he:ED X EX o fo)(ha:AD X EX (e::es) fa)(hk:k≤k':=by decide)
  (hst:starEach (e::es) X.env=(false,eval e X.env)::starEach es X.env:=by rfl) (hpl:(backTo pos (starEach es X.env)).any (·.1)=false:=by rfl)
  (ht:eval (.Call (.Attribute o m zh) (e::es) [] pos) X.env=(do
   let ov←eval o X.env
   standAt zh.atName
   let(f,first)←holding [ov] (getMethod ov m pl)
   callWith pos f first (backTo pos (starEach (e::es) X.env)) (backToKw pos (keywordEach [] X.env))):=by rfl):ED X EX (.Call (.Attribute o m zh) (e::es) [] pos) (y_3 m n tb fo fa):=
 PE.imp (cm_4 he (hr.mono hk) lk ha hst hpl ht) fun _ _ _ q=>cw_0 rfl T q
end
def unT:List Tn→Option (List D)
 | []=>some []
 | .sh d::r=>(unT r).map (d:: ·)
 |_=>none
theorem bg_7:∀{ts:List Tn} {ds:List D},unT ts=some ds→ts=ds.map .sh
 | [],_,e=>by cases e;rfl
 |t::r,ds,e=>by
  cases t with
  |sh d=>
   simp only [unT] at e;cases q:unT r with
   |none=>rw [q] at e;cases e
   |some l=>
    rw [q] at e;cases e;rw [bg_7 q];rfl
  |_=>cases e
def t_4(n:Nat)(c:Str)(ds:List D):SE:= .lt (.obj c [] [])::(ds.map Sl.sh ++ List.replicate (n - (ds.length + 1)) .no)
def ao_5(n:Nat)(c:Str)(g:FS)(ds:List D):R (List Str×List D):=match g (t_4 n c ds) with
 | .nx Δ=>(match Δ[(0:Nat)]? with
  |some (.lt (.obj c' ns ts))=>if c'=c then(match unT ts with
   |some rs=> .ok (ns,rs)
   |none=> .no) else .no
  |_=> .no)
 | .ex x _=> .ex x
 |_=> .no
def spI(K:Frag)(C:Addr)(n:Nat)(F:List D→R (List Str×List D)):Sp:=fun vs H Q E=>∃x dx vs0 Hq G ds,vs= .ref x::vs0∧vs0.length=n∧Hq x=none∧Same Hq H∧H x=some (.ins C dx [])∧Same G Hq∧HasL K G vs0 ds∧
 (match F ds with
 | .ok p=>∀G' H' us dx',Step G Hq G' H'→G' x=none→H' x=some (.ins C dx' (p.1.zip us))→p.1.length=us.length→HasL K G' us p.2→Q .non H'
 | .ex e=>(EXof K E).p e G Hq
 | .no=>False)
theorem bx_0{G H h0:Hp}{v0:V}{ds:List D}{N:List Str}{b:Nat→Addr}(g:Same G H)(i0:Same h0 H)(r:HasL K G vs ds)(hl:vs.length + 1≤N.length):Ev K ⟨h0,b⟩ G G H (m_5 N (v0::vs)) (.no::(ds.map Sl.sh ++ List.replicate (N.length - (ds.length + 1)) .no)) (fun _ _=>False):=by
 have key:∀(i:Nat) (s:Sl),(Sl.no::(ds.map Sl.sh ++ List.replicate (N.length - (ds.length + 1)) .no))[i]? =some s→(∃j d,i=j + 1∧s= .sh d∧ds[j]? =some d)∨s= .no:=fun i s e=>by
  cases i with
  |zero=>exact .inr (by simpa using e.symm)
  |succ i=>
   rw [List.getElem?_cons_succ] at e
   by_cases hi:i < ds.length
   ·rw [List.getElem?_append_left (by rw [List.length_map];exact hi),List.getElem?_map] at e;obtain⟨d,e1,e2⟩:=Option.map_eq_some_iff.mp e;exact .inl ⟨i,d,rfl,e2.symm,e1⟩
   ·rw [List.getElem?_append_right (by rw [List.length_map];omega),List.getElem?_replicate] at e
    split at e
    ·cases e;exact .inr rfl
    ·cases e
 refine⟨⟨i0,g,Same.refl _,fun _ n _=>n⟩, ?_,fun i d e=> ?_,fun i z d e zo=> ?_,fun _ _ ha=>ha.elim,fun _ _ _ ha=>ha.elim,fun i d e=> ?_,fun i d e=> ?_⟩
 ·unfold m_5;have:=r.length;simp only [List.length_append,List.length_map,List.length_replicate,List.length_cons] at hl⊢;omega
 ·rcases key i _ e with⟨j,d',rfl,q,q2⟩|q
  ·cases q;obtain⟨v,e1,h⟩:=r.get q2;refine⟨v, ?_,h⟩;unfold m_5;have hi:j < vs.length:=(List.getElem?_eq_some_iff.mp e1).1;rw [List.getElem?_append_left (by rw [List.length_map,List.length_cons];omega),List.getElem?_map,List.getElem?_cons_succ,e1];rfl
  ·cases q
 ·rcases key i _ e with⟨j,d',_,q,_⟩|q <;> (subst q;cases zo)
 ·rcases key i _ e with⟨j,d',_,q,_⟩|q <;> cases q
 ·rcases key i _ e with⟨j,d',_,q,_⟩|q <;> cases q
theorem fn_I{c:Bool}{w:World}{x qual cn:Str}{st:Stmt}{f C:Addr}{N ps:List Str}{k n:Nat}{g:FS}(F:Fun K x qual st f fd)(S:FnScope N ps (b_0 st))(hC:ClsAt K cn C)(hn:ps.length=n + 1)(hle:ps.length≤N.length)
  (zj:∀(zn:Value) (A:Around) (outer:List Env) (s:Shared) (H:Hp) (E:XK),RoomC c k (A.deeper (envOfC qual (b_0 st) s.heap.objs.size f zn))→
   BD (cxN c P w K mg base N qual (b_0 st) f zn A outer s H E) (fun _=>EXof K E) (e_2 st) g):FnX P w K mg base c (k + 1) f fd ps (spI K C n (ao_5 N.length cn g)):=by
 refine Fun.okX F S (fun vs H Q E h=> ?_) fun zn A outer s H vs Q E hr h=>⟨_,zj zn A outer s H E hr, ?_⟩
 ·obtain⟨x,dx,vs0,Hq,G,ds,rfl,hl,_⟩:=h;rw [List.length_cons,hl,hn]
 obtain⟨x,dx,vs0,Hq,G,ds,rfl,hl,n1,i0,hx,g0,r,q⟩:=h;have E0:=bx_0 (N:=N) (b:=fun _=>x) (v0:= .ref x) (g0.trans i0) i0 r (by rw [hl];omega);have hs:(m_5 N (.ref x::vs0))[0]? =some (some (.ref x)):=rfl;have E1:=E0.putO (i:=0) (z:= .lt (.obj cn [] [])) (v:= .ref x) (S:=fun b=>b=x) (fun a ha=>by subst ha;exact⟨n1,g0.free n1,by rw [hx];simp⟩) rfl (fun _ z=>by cases z) (.obj (S1:=fun _=>False) hC (us:= []) hx rfl rfl (fun _ z=>z.elim) .nil) (fun j a ha=>ha.elim) (fun _ _=>rfl);rw [x_9 hs] at E1;refine⟨⟨Hq,fun _=>x⟩,G,G,_,_,E1, ?_⟩;unfold ao_5 at q;have e2:(Sl.no::(ds.map Sl.sh ++ List.replicate (N.length - (ds.length + 1)) .no)).set 0 (.lt (.obj cn [] []))=t_4 N.length cn ds:=rfl;rw [e2];cases e:g (t_4 N.length cn ds) with
 |nx Δ=>
  rw [e] at q;intro σ G' H' O E' _;simp only at q
  split at q
  ·rename_i p ep
   split at ep
   ·rename_i c2 ns ts e3
    split at ep
    ·rename_i hcc;subst hcc
     split at ep
     ·rename_i rs eu;cases ep;obtain⟨v,s1,t3⟩:=E'.ow _ _ _ e3 rfl;have s2:=E'.lt _ _ e3;rw [s1] at s2;cases s2;cases t3 with
      |obj hc h hl' ha sub rl=>
       rw [bg_7 eu] at rl;have:=hC.same hc;subst this;exact q G' H' _ _ E'.st (E'.out _ _ ha).1 h hl' rl.off
     ·cases ep
    ·cases ep
   ·cases ep
  ·rename_i x2 ep
   split at ep
   ·split at ep
    ·split at ep <;> cases ep
    ·cases ep
   ·cases ep
  ·rename_i ep;exact q.elim
 |ex x Δ=>rw [e] at q;exact fun σ G' H' O E' _=>(EXof K E).mono _ _ _ _ _ E'.st q
 |rt w=>rw [e] at q;exact q.elim
 |bk Δ=>rw [e] at q;exact q.elim
 |ct Δ=>rw [e] at q;exact q.elim
 |no=>rw [e] at q;exact q.elim
theorem bg_8{f:Str}{y:V}:∀{ns:List Str} {us:List V},ns.length=us.length→ns.contains f=false→v_6 f y (ns.zip us)=(ns ++ [f]).zip (us ++ [y])
 | [], [],_,_=>rfl
 | [],_::_,e,_=>by simp at e
 |_::_, [],e,_=>by simp at e
 |n::ns,u::us,e,h=>by
  rw [List.contains_cons,Bool.or_eq_false_iff] at h;have hn:¬n=f:=fun z=>by rw [z] at h;simp at h
  show v_6 f y ((n,u)::ns.zip us)=(n,u)::(ns ++ [f]).zip (us ++ [y]);unfold v_6;rw [if_neg hn,bg_8 (by simpa using e) h.2]
def y_4(i:Nat)(cs:List Str)(f:Str)(js:List Nat)(fe:FE):FS:=fun Δ=>match(gsome js Δ)[i]? with
 |some (.lt (.obj c ns ts))=>if cs.contains c=true∧ns.contains f=false∧ns.length < 1000 then(match fe (vsh (gsome js Δ)) with
  | .ok w=> .nx ((gsome js Δ).set i (.lt (.obj c (ns ++ [f]) (ts ++ [.sh w.d]))))
  | .ex x=> .ex x (gsome js Δ)
  | .no=> .no) else .no
 |_=> .no
section
variable{X:Cx}{EX:EXS}{pos:Pos}
theorem az_1{i:Nat}{cs:List Str}{f x:Str}(js:List Nat){e:Expr}{fe:FE}{p1 p2:Pos}(k:OFld X.K cs f)(he:ED X EX e fe)(hN:X.N[i]? =some x:=by rfl)(hv:Vis X.env.scope x:=by first|exact Or.inl rfl|exact Or.inr (Or.inl rfl)|exact Or.inr (Or.inr rfl))(hd:(x ==("__debug__" :Str))=false:=by decide)
  (hcd:(x ==("__classdict__" :Str))=false:=by decide) (hs:swapsWith e (some (.Attribute (.Name x p1) f p2)) pos.line X.env=pure false:=by rfl):SD X EX (.Assign [.Attribute (.Name x p1) f p2] e pos) (y_4 i cs f js fe):=
 PS.imp (ct_3 (o_7 hN hv hd hcd) he hs) fun D σ H ⟨H0,G0,G,Δ,O,E,q⟩=>by
  obtain⟨G1,O1,sg,E1⟩:=E.gsome js;unfold y_4 at q;generalize gsome js Δ=Δ1 at q E1
  split at q
  ·rename_i c ns ts e1
   split at q
   ·rename_i hc;obtain⟨hc1,hc2,hc3⟩:=hc;refine⟨G1,vsh Δ1,E1.st.gh,E1.gsh, ?_⟩;cases e2:fe (vsh Δ1) with
    |ex y=>simp only [e2] at q;exact q σ G1 H O1 E1 sg
    |no=>simp only [e2] at q;exact q.elim
    |ok w=>
     simp only [e2] at q;refine WP.intro fun v G2 H2 st r=> ?_;have E2:=E1.grow st;obtain⟨v0,s1,t⟩:=E2.ow i _ _ e1 rfl;have s2:=E2.lt i _ e1;generalize et:(Tn.obj c ns ts)=t0 at t;cases t with
     | @obj a C dx c2 ns2 us ts2 S S1 hC h hl ha sub rl=>
      injection et with et1 et2 et3
      subst et1 et2 et3;obtain⟨kc,kn⟩:=k _ hc1 _ hC;refine⟨_,s1,_,_,_,_,rfl,h,kc,kn,by rw [List.length_zip,←hl,Nat.min_self];exact hc3, ?_⟩;rw [bg_8 hl hc2];have ms:=MStep.write (S:=O1 i) E2.st.gh ha (E2.out i _ ha).1 (.ins C dx ((ns ++ [f]).zip (us ++ [v])));refine q σ G2 _ _ (E2.step2 (S:=O1 i) (z:= .lt _) rfl (fun _ z=>by cases z) (fun _ _=>by rw [s1] at s2⊢;exact s2) ms.weak s1 (fun b hb=>⟨.inl hb,(E2.out i b hb).1,ms.al b (E2.out i b hb).2.2⟩) ?_) (sg.trans st.gg);refine .obj hC b_4 (by rw [List.length_append,List.length_append,hl];rfl) ha sub ?_;refine OwL.append (S2:=fun _=>False) (rl.mono (Same.refl _) (fun b o hb z=> ?_) fun _ z=>z) (.cons (S1:=fun _=>False) (S2:=fun _=>False) (.sh r) .nil (fun _ z _=>z) (fun _ z=>z.elim) fun _ z=>z.elim) (fun _ _ z=>z) (fun _ z=>z) fun _ z=>z.elim;rw [b_1 (sub b hb).2];exact z
     |_=>cases et
   ·exact q.elim
  ·exact q.elim
end
section
variable{X:Cx}{EX:EXS}{e:Expr}{es:List Expr}{x:Str}{pp pos:Pos}{cc:Bool}{k k' n:Nat}{ps:List Str}{C f:Addr}{fd:FuncData}
theorem bx_1{zd:List (Addr×Obj)}{σ:Sg}{s:Shared}{Q:VK}{sp:Sp}(M:Mk X.K C f)(F:FnX X.prog X.w X.K X.mg X.base cc k f fd ps sp)(hr:RoomC cc (k + 1) X.A)(hb:Binds X.K fd ps [])(lk:Lk X EX)(I:Inv X zd σ H s)(r:Vals vs us)
  (h:∀x dx,H x=none→H dx=none→dx≠x→sp (.ref x::vs) (upd (upd H dx (.own x)) x (.ins C dx [])) (fun v H2=>v= .non∧Q (.ref x) H2) (EXE X.K (EX σ))):wpAny (model X.prog X.w) X.A (call (.ref C) us) (EP X zd σ Q) X.xe s:=by
 have hq:=h (s.heap.objs.size + 1) s.heap.objs.size (I.hok.fresh (Nat.le_succ _)) (I.hok.fresh (Nat.le_refl _)) (Nat.ne_of_lt (Nat.lt_succ_self _));have I2:=Inv.made (C:=C) I;have r2:Vals (V.ref (s.heap.objs.size + 1)::vs) (Value.ref (s.heap.objs.size + 1)::us):= .cons rfl r;have hl:(Value.ref (s.heap.objs.size + 1)::us).length=ps.length:=by
  rw [←r2.length];exact F.len _ _ _ _ hq
 have hb':=hb _ (Value.ref (s.heap.objs.size + 1)::us) I2.kIn (by rw [List.append_nil];exact hl);rw [List.append_nil] at hb';refine wpAny_call (cb_0 (f:=f) I.kIn M.makes M.init (beq_iff_eq.mp M.fn) (codeAny_mono (F.run _ X.stack _ _ ⟨Value.ref (s.heap.objs.size + 1)::us, []⟩ (Value.ref (s.heap.objs.size + 1)::us) _ _ _ (hr.make C us []) (I2.env0.make C us []) hb' r2 hq) fun r s' hq'=> ?_));cases r with
 |error e=>exact lk zd σ _ _ e s' I2 hq'
 |ok fl=>
  cases fl with
  |ret u=>
   obtain⟨v,H',I3,rv,ev,q3⟩:=I2.after hq';subst ev;exact⟨rv,⟨V.ref (s.heap.objs.size + 1),H',I3,rfl,q3⟩⟩
  |next=>exact False.elim hq'
  |brk=>exact False.elim hq'
  |cont=>exact False.elim hq'
def MakD(P:Program)(w:World)(K:Frag)(mg:Str→Option Value)(base:Heap)(cc:Bool)(c:Str)(k n:Nat)(F:List D→R (List Str×List D)):Prop:=
 ∃C f fd ps,ClsAt K c C∧mg c=some (.ref C)∧Mk K C f∧FnX P w K mg base cc k f fd ps (spI K C n F)∧Binds K fd ps []
def aj_8(c:Str)(n:Nat)(F:List D→R (List Str×List D))(fa:FA):FE:=fun δ=>(fa δ).bind fun ds=>if ds.length=n then(F ds).bind fun p=> .ok (.sh (.obj c p.1 p.2)) else .no
theorem br_6{F:List D→R (List Str×List D)}{fa:FA}(hr:RoomC cc k' X.A)(lk:Lk X EX)(h:MakD X.prog X.w X.K X.mg X.base cc x k n F)(ha:AD X EX (e::es) fa)(hk:k + 1≤k':=by decide)(hg:Gl X x:=by rfl)(hdb:(x ==("__debug__" :Str))=false:=by decide)
  (he:starEach (e::es) X.env=(false,eval e X.env)::starEach es X.env:=by rfl) (hpl:(backTo pos (starEach es X.env)).any (·.1)=false:=by rfl):ED X EX (.Call (.Name x pp) (e::es) [] pos) (aj_8 x n F fa):=by
 obtain⟨C,f,fd,ps,hC,hm,M,ok,hb⟩:=h;intro zd s σ H Q I q;obtain⟨G,δ,g0,s0,o⟩:=q;refine wpAny_Call_Name_kw (q_7 I hg hm ?_ hdb);have ta:tDa X.K EX fa σ H fun vs H1=>∃G1 ds,Same G1 H1∧HasL X.K G1 vs ds∧ds.length=n∧Out X.K (EX σ) G1 H1 ((F ds).bind fun p=> .ok (.sh (.obj x p.1 p.2))) Q:=by
  refine tDa.seq g0 s0 o fun ds vs G' H' _ st r o'=> ?_
  split at o'
  ·rename_i hl;exact⟨G',ds,st.gh,r,hl,o'⟩
  ·exact o'.elim
 refine callWith_K (h₀:=X.base) I.ok.mod.kin M.kp (thn (ha pos zd s σ H _ I ta) fun us s1 ⟨vs,H1,I1,r,G1,ds,sg,rl,hl,o'⟩=>⟨I1.kIn, ?_⟩) he hpl;refine bx_1 M ok (hr.mono hk) hb lk I1 r fun y dy ny ndy ne=> ?_;refine⟨y,dy,vs,H1,G1,ds,rfl,by rw [rl.length];exact hl,ny,(fun b o e=>by rw [b_1 (c_2 e ny),b_1 (c_2 e ndy)];exact e),b_4,sg,rl, ?_⟩;cases ef:F ds with
 |ok p=>
  rw [ef] at o';intro G' H' us' dx' st gy hy zk rr;refine⟨rfl, ?_⟩;have st2:Step G1 H1 (upd G' y (.ins C dx' (p.1.zip us'))) H':=⟨st.hh,fun b u z=>by
   by_cases w:b=y
   ·subst w;rw [b_4] at z;rw [hy];exact z
   ·rw [b_1 w] at z;exact st.gh b u z,st.gg.trans (n_6 gy _),fun b z1 z2=>by
   have w:b≠y:=fun w=>z2 (by rw [w];exact ny);rw [b_1 w];exact st.nw b z1 z2⟩
  exact o' _ _ _ st2 (.obj hC b_4 zk (rr.mono (n_6 gy _)))
 |ex z=>rw [ef] at o';exact EXof.in o'
 |no=>rw [ef] at o';exact o'
end
section
variable{K:Frag}{G:Hp}{a:Addr}{vs:List V}{ds:List D}
end
section
variable{X:Cx}{EX:EXS}{pos:Pos}
end
end L3
namespace L3
open PySem L2 Builtin Builtin.Str
variable{K:Frag}{fd:FuncData}{mg:Str→Option Value}{P:Program}{vs:List V}{us:List Value}{base:Heap}{H:Hp}{X:Cx}{pos:Pos}{v:V}
theorem br_7{x y:Str}(h:x.cps.toList=y.cps.toList):x=y:=by
 obtain⟨a⟩:=x;obtain⟨b⟩:=y;simp only at h;have:a=b:=by
  have:=congrArg List.toArray h;simpa using this
 rw [this]
theorem br_8(x:Str):x.length=x.cps.toList.length:=by simp [Str.length]
theorem cm_6(x y:Str):(x ++ y).cps.toList=x.cps.toList ++ y.cps.toList:=by
 show(Str.append x y).cps.toList=_;simp [Str.append]
end L3
namespace L3
open PySem L2
variable{K:Frag}{fd:FuncData}{mg:Str→Option Value}{P:Program}{vs:List V}{us:List Value}{base:Heap}{H:Hp}{X:Cx}{pos:Pos}{v:V}
theorem e_4(i j:Int):eqD (.int i) (.int j)= .ok (.sh (.bl (decide (i=j)))):=by
 have h:eqvD (.int i) (.int j)=decide (i=j):=by
  show(i ==j)=decide (i=j);rw [Bool.beq_eq_decide_eq]
 show(if eqC (.int i) (.int j)=true then R.ok (W.sh (D.bl (eqvD (.int i) (.int j)))) else .no)=_;rw [if_pos (by rfl),h]
theorem t_5{i j:Int}(h1: -18446744073709551616 < i)(h2:i < 18446744073709551616):mulC i j=true:=decide_eq_true (.inl (by omega))
theorem ac_9{i j:Int}(h1: -18446744073709551616 < j)(h2:j < 18446744073709551616):mulC i j=true:=decide_eq_true (.inr (by omega))
theorem k_3{i j:Int}(h:mulC i j=true):p_9 (.int i) (.int j)= .ok (.sh (.int (i * j))):=by unfold p_9 intD;simp only [h,if_true]
theorem f_5(i j:Int):b_6 (.int i) (.int j)= .ok (.sh (.int (i + j))):=rfl
theorem ad_0(i j:Int):subD (.int i) (.int j)= .ok (.sh (.int (i - j))):=rfl
theorem j_6{i j:Int}(h1:0 < j)(h2:j < 1361129467683753853853498429727072845824):h_1 (.int i) (.int j)= .ok (.sh (.int (i / j))):=by
 exact if_pos (show divC i j=true from decide_eq_true ⟨h1,by omega⟩)
theorem e_3{i j:Int}(h1:0 < j):d_7 (.int i) (.int j)= .ok (.sh (.int (i % j))):=by
 exact if_pos (show modC i j=true from decide_eq_true h1)
theorem ab_6(i j:Int):ltD (.int i) (.int j)= .ok (.sh (.bl (decide (i < j)))):=rfl
theorem s_6(i j:Int):leD (.int i) (.int j)= .ok (.sh (.bl (decide (i≤j)))):=rfl
theorem x_0(i j:Int):gtD (.int i) (.int j)= .ok (.sh (.bl (decide (j < i)))):=rfl
theorem cd_8{x y:Str}(h:x.length + y.length≤16777216):b_6 (.str x) (.str y)= .ok (.sh (.str (x ++ y))):=if_pos h
theorem ae_9{x y:List D}(h:x.length + y.length≤16777216):b_6 (.lst x) (.lst y)= .ok (.ow (.lst (x ++ y))):=if_pos h
theorem ah_7{i j:Int}(h:powC i j=true):powD (.int i) (.int j)= .ok (.sh (.int (i ^ j.toNat))):=by unfold powD intD;simp only [h,if_true]
theorem u_3{i j:Int}(h1:0≤j)(h2:j≤1000000)(h3: -18446744073709551616 < i)(h4:i < 18446744073709551616):powC i j=true:=decide_eq_true ⟨h1,by omega,by omega⟩
theorem c_9(ds:List D):k_2 [.lst ds]= .ok (.sh (.int ds.length)):=rfl
theorem u_4{x:Str}(h:x.length≤16777216):k_2 [.str x]= .ok (.sh (.int x.length)):=if_pos h
theorem az_2(i j:Int):maxD [.int i, .int j]= .ok (.sh (.int (max i j))):=by
 show R.ok (W.sh (D.int (if j > i then j else i)))=_;rw [show(if j > i then j else i)=max i j by rw [Int.max_def];split <;> split <;> omega]
theorem cd_9(i j:Int):minD [.int i, .int j]= .ok (.sh (.int (min i j))):=by
 show R.ok (W.sh (D.int (if j < i then j else i)))=_;rw [show(if j < i then j else i)=min i j by rw [Int.min_def];split <;> split <;> omega]
theorem g_8{ds:List D}{i:Int}{d:D}(h:atI ds i=some d):ixD (.lst ds) (.int i)= .ok (.sh d):=by unfold ixD;simp only [h]
theorem br_9{x:Str}{i:Int}{c:Nat}(hz:x.length≤16777216)(h:atI x.cps.toList i=some c):ixD (.str x) (.int i)= .ok (.sh (.str ⟨#[c]⟩)):=by
 unfold ixD;simp only [h,if_pos hz]
theorem az_3{α:Type}{xs:List α}{i:Int}{x:α}(h0:0≤i)(h:xs[i.toNat]? =some x):atI xs i=some x:=by
 have hl:i.toNat < xs.length:=(List.getElem?_eq_some_iff.mp h).1;unfold atI ixN;rw [if_pos h0,if_pos (by omega)];exact h
theorem bx_2(fg:FG)(g:FS)(I:Nat→SE→Prop){n:Nat}{lo:Int}{Δ:SE}(h0:I 0 Δ)
  (step:∀k Δ,k < n→I k Δ→∃Δ1,fg (.int (lo + (k:Int))) Δ= .ok Δ1∧∃Δ2,(g Δ1= .nx Δ2∨g Δ1= .ct Δ2)∧I (k + 1) Δ2):∃Δ',j_1 fg g (d_8 lo n) Δ= .nx Δ'∧I n Δ':=by
 have all:∀(m k:Nat) (Δ:SE),k + m=n→I k Δ→∃Δ',j_1 fg g ((List.range' k m).map fun(j:Nat)=>D.int (lo + (j:Int))) Δ= .nx Δ'∧I n Δ':=by
  intro m
  induction m with
  |zero=>intro k Δ e h;exact⟨Δ,rfl,by rw [←e];exact h⟩
  |succ m ih=>
   intro k Δ e h;obtain⟨Δ1,e1,Δ2,e2,h2⟩:=step k Δ (by omega) h;obtain⟨Δ',e3,h3⟩:=ih (k + 1) Δ2 (by omega) h2;refine⟨Δ', ?_,h3⟩;rw [List.range'_succ,List.map_cons];show(match fg (.int (lo + (k:Int))) Δ with
    | .ok Δ1=>(match g Δ1 with
     | .nx Δ2=>j_1 fg g _ Δ2
     | .ct Δ2=>j_1 fg g _ Δ2
     | .bk Δ2=> .nx Δ2
     |r=>r)
    | .ex _=> .no
    | .no=> .no)=_
   rw [e1];rcases e2 with e2|e2
   ·simp only [e2];exact e3
   ·simp only [e2];exact e3
 obtain⟨Δ',e,h⟩:=all n 0 Δ (by omega) h0;refine⟨Δ', ?_,h⟩;unfold d_8;rw [List.range_eq_range'];exact e
theorem j_4(fg:FG)(g:FS)(I:Nat→SE→Prop){ds:List D}{Δ:SE}(h0:I 0 Δ)
  (step:∀k d Δ,ds[k]? =some d→I k Δ→∃Δ1,fg d Δ= .ok Δ1∧∃Δ2,(g Δ1= .nx Δ2∨g Δ1= .ct Δ2)∧I (k + 1) Δ2):∃Δ',j_1 fg g ds Δ= .nx Δ'∧I ds.length Δ':=by
 have all:∀(m k:Nat) (Δ:SE),k + m=ds.length→I k Δ→∃Δ',j_1 fg g (ds.drop k) Δ= .nx Δ'∧I ds.length Δ':=by
  intro m
  induction m with
  |zero=>
   intro k Δ e h;rw [List.drop_eq_nil_of_le (by omega)];exact⟨Δ,rfl,by rw [←e];exact h⟩
  |succ m ih=>
   intro k Δ e h;obtain⟨d,d1,d2⟩:=y_0 (l:=ds) (i:=k) (by omega);obtain⟨Δ1,e1,Δ2,e2,h2⟩:=step k d Δ d1 h;obtain⟨Δ',e3,h3⟩:=ih (k + 1) Δ2 (by omega) h2;refine⟨Δ', ?_,h3⟩;rw [d2];show(match fg d Δ with
    | .ok Δ1=>(match g Δ1 with
     | .nx Δ2=>j_1 fg g (ds.drop (k + 1)) Δ2
     | .ct Δ2=>j_1 fg g (ds.drop (k + 1)) Δ2
     | .bk Δ2=> .nx Δ2
     |r=>r)
    | .ex _=> .no
    | .no=> .no)=_
   rw [e1];rcases e2 with e2|e2
   ·simp only [e2];exact e3
   ·simp only [e2];exact e3
 have:=all ds.length 0 Δ (by omega) h0
 rwa [List.drop_zero] at this
theorem af_0{j:Int}(h1: -4611686018427387903≤j)(h2:j < 4611686018427387904):p_1 [.int j]= .ok (d_8 0 j.toNat):=by
 have h:j.natAbs < 4611686018427387904:=by omega
 exact if_pos h
theorem j_2{m:Nat}{fi:FI}{fg:FGc}{p:FT}{f:FE}{δ:DE}{ds rs:List D}(h:fi δ= .ok ds)(hl:ds.length≤16777216)(hc:o_6 fg p f (δ ++ List.replicate m none) ds= .ok rs):e_8 m fi fg p f δ= .ok (.ow (.lst rs)):=by
 unfold e_8;rw [h];simp only [R.bind_ok];rw [if_pos hl,hc];rfl
theorem cq_0{fg:FGc}{p:FT}{f:FE}{δ:DE}:∀(n:Nat) (lo:Int),(∀k:Nat,k < n→∃δ1 z,fg (.int (lo + (k:Int))) δ= .ok δ1∧p δ1= .ok true∧f δ1= .ok (.sh (.int z)))→
  ∃cs:List Int,cs.length=n∧o_6 fg p f δ (d_8 lo n)= .ok (cs.map D.int):=by
 have all:∀(es:List Nat) (lo:Int),(∀k∈es,∃δ1 z,fg (.int (lo + ((k:Nat):Int))) δ= .ok δ1∧p δ1= .ok true∧f δ1= .ok (.sh (.int z)))→
   ∃cs:List Int,cs.length=es.length∧o_6 fg p f δ (es.map fun(k:Nat)=>D.int (lo + (k:Int)))= .ok (cs.map D.int):=by
  intro es lo
  induction es with
  |nil=>intro _;exact⟨[],rfl,rfl⟩
  |cons k es ih=>
   intro h;obtain⟨δ1,z,e1,e2,e3⟩:=h k List.mem_cons_self;obtain⟨cs,l5,e5⟩:=ih fun j hj=>h j (List.mem_cons_of_mem _ hj);refine⟨z::cs,by simp [l5], ?_⟩;rw [List.map_cons,List.map_cons];show((fg (.int (lo + (k:Int))) δ).bind fun δ1=>(p δ1).bind fun b=>if b=true then(f δ1).bind fun w=>(o_6 fg p f δ _).bind fun rs=> .ok (w.d::rs) else o_6 fg p f δ _)=_;rw [e1];simp only [R.bind_ok,e2,if_true,e3];rw [e5];rfl
 intro n lo h;obtain⟨cs,l,e⟩:=all (List.range n) lo fun k hk=>h k (List.mem_range.mp hk);exact⟨cs,by rw [l,List.length_range],e⟩
theorem y_5{js:List Nat}{p:FT}{g:FS}{n:Nat}{Δ Δ':SE}(h1:p (vall Δ)= .ok true)(h2:g Δ= .nx Δ'):h_2 js p g (n + 1) Δ=h_2 js p g n Δ':=by
 show(match p (vall Δ) with
  | .ok b=>if b=true then(match g Δ with
    | .nx Δ'=>h_2 js p g n Δ'
    | .ct Δ'=>h_2 js p g n Δ'
    | .bk Δ'=> .nx Δ'
    |r=>r) else .nx Δ
  | .ex _=>exT js p Δ
  | .no=> .no)=_
 rw [h1];simp only [if_true,h2]
theorem ah_8{js:List Nat}{p:FT}{g:FS}{n:Nat}{Δ:SE}(h1:p (vall Δ)= .ok false):h_2 js p g (n + 1) Δ= .nx Δ:=by
 show(match p (vall Δ) with
  | .ok b=>if b=true then(match g Δ with
    | .nx Δ'=>h_2 js p g n Δ'
    | .ct Δ'=>h_2 js p g n Δ'
    | .bk Δ'=> .nx Δ'
    |r=>r) else .nx Δ
  | .ex _=>exT js p Δ
  | .no=> .no)=_
 rw [h1];simp only [Bool.false_eq_true,if_false]
theorem ce_0(d:D):Sl.pub (.sh d)=some d:=rfl
theorem cw_1(d:D):Sl.pub (.ow d)=none:=rfl
theorem cw_2:Sl.pub .no=none:=rfl
theorem cw_3(d:D):Sl.any (.sh d)=some d:=rfl
theorem cw_4(d:D):Sl.any (.ow d)=some d:=rfl
theorem cw_5:Sl.any .no=none:=rfl
theorem cm_7(d:D):Sl.give (.sh d)= .sh d:=rfl
theorem cm_8(d:D):Sl.give (.ow d)= .sh d:=rfl
theorem cm_9:Sl.give .no= .no:=rfl
theorem a_7{g h:FS}{Δ Δ':SE}(e:g Δ= .nx Δ'):sSeq g h Δ=h Δ':=by unfold sSeq;rw [e]
theorem l_4{n:Nat}{g:FS}{ds:List D}{w:W}(e:g (start3 n ds)= .rt w):bodyD n g ds= .ok w:=by unfold bodyD;rw [e]
theorem u_5{fg:FGc}{p:FT}{f:FE}{δ:DE}(P:D→Bool)(F:D→D):∀(ds:List D),(∀d∈ds,∃δ1,fg d δ= .ok δ1∧p δ1= .ok (P d)∧(P d=true→∃w,f δ1= .ok w∧w.d=F d))→
  o_6 fg p f δ ds= .ok ((ds.filter P).map F)
 | [],_=>rfl
 |d::ds,h=>by
  obtain⟨δ1,e1,e2,e3⟩:=h d List.mem_cons_self;have ih:=u_5 P F ds fun x hx=>h x (List.mem_cons_of_mem _ hx);show((fg d δ).bind fun δ1=>(p δ1).bind fun b=>if b=true then(f δ1).bind fun w=>(o_6 fg p f δ ds).bind fun rs=> .ok (w.d::rs) else o_6 fg p f δ ds)=_;rw [e1];simp only [R.bind_ok,e2];cases hP:P d with
  |true=>
   obtain⟨w,e4,e5⟩:=e3 hP;rw [if_pos rfl,e4,ih];simp only [R.bind_ok,e5,List.filter_cons_of_pos hP,List.map_cons]
  |false=>
   rw [if_neg Bool.false_ne_true,ih,List.filter_cons_of_neg (by rw [hP];exact Bool.false_ne_true)]
theorem r_8{fg:FGc}{f:FE}{δ:DE}(F:D→D)(ds:List D)(h:∀d∈ds,∃δ1 w,fg d δ= .ok δ1∧f δ1= .ok w∧w.d=F d):
  o_6 fg (fun _=> .ok true) f δ ds= .ok (ds.map F):=by
 have:=u_5 (fg:=fg) (p:=fun _=> .ok true) (f:=f) (δ:=δ) (fun _=>true) F ds fun d hd=>by
  obtain⟨δ1,w,e1,e2,e3⟩:=h d hd;exact⟨δ1,e1,rfl,fun _=>⟨w,e2,e3⟩⟩
 rw [this,List.filter_eq_self.mpr fun _ _=>rfl]
theorem bg_9:isT "int" .non=some false:=rfl
theorem bn_3(b:Bool):isT "int" (.bl b)=some true:=rfl
theorem bh_0(i:Int):isT "int" (.int i)=some true:=rfl
theorem bh_1(x:Str):isT "int" (.str x)=some false:=rfl
theorem bh_2(l:List D):isT "int" (.lst l)=some false:=rfl
theorem bh_3(l:List D):isT "int" (.tup l)=some false:=rfl
theorem az_4:isT "bool" .non=some false:=rfl
theorem bh_4(b:Bool):isT "bool" (.bl b)=some true:=rfl
theorem az_5(i:Int):isT "bool" (.int i)=some false:=rfl
theorem az_6(x:Str):isT "bool" (.str x)=some false:=rfl
theorem az_7(l:List D):isT "bool" (.lst l)=some false:=rfl
theorem az_8(l:List D):isT "bool" (.tup l)=some false:=rfl
theorem bh_5:isT "str" .non=some false:=rfl
theorem bn_4(b:Bool):isT "str" (.bl b)=some false:=rfl
theorem bh_6(i:Int):isT "str" (.int i)=some false:=rfl
theorem bh_7(x:Str):isT "str" (.str x)=some true:=rfl
theorem bh_8(l:List D):isT "str" (.lst l)=some false:=rfl
theorem bh_9(l:List D):isT "str" (.tup l)=some false:=rfl
theorem az_9:isT "list" .non=some false:=rfl
theorem bi_0(b:Bool):isT "list" (.bl b)=some false:=rfl
theorem ba_0(i:Int):isT "list" (.int i)=some false:=rfl
theorem ba_1(x:Str):isT "list" (.str x)=some false:=rfl
theorem ba_2(l:List D):isT "list" (.lst l)=some true:=rfl
theorem ba_3(l:List D):isT "list" (.tup l)=some false:=rfl
theorem ar_7:isT "tuple" .non=some false:=rfl
theorem ba_4(b:Bool):isT "tuple" (.bl b)=some false:=rfl
theorem ar_8(i:Int):isT "tuple" (.int i)=some false:=rfl
theorem ar_9(x:Str):isT "tuple" (.str x)=some false:=rfl
theorem as_0(l:List D):isT "tuple" (.lst l)=some false:=rfl
theorem as_1(l:List D):isT "tuple" (.tup l)=some true:=rfl
end L3
namespace L3
open PySem PySem.Spec PyProof.Rows L2
variable{K:Frag}{fd:FuncData}{mg:Str→Option Value}{P:Program}{vs:List V}{us:List Value}{base:Heap}{H:Hp}{X:Cx}{pos:Pos}{v:V}
def ba_5:List Value→Bool
 | .ref _::r=>ba_5 r
 |l=>l == [.type "ValueError", .type "Exception", .type "BaseException", .type "object"]
theorem ab_7(self:Value):∀{l:List Value},ba_5 l=true→refuseLoop self "__setattr__" l=pure ()
 | [],e=>by cases e
 | .ref c::r,e=>by rw [refuseLoop_ref];exact ab_7 self e
 | .type n::r,e=>by
  have e':(Value.type n::r)= [.type "ValueError", .type "Exception", .type "BaseException", .type "object"]:=eq_of_beq e;rw [e'];exact PySem.F.store_ValueError.passes self
 | .none::r,e=>by cases(eq_of_beq (show((Value.none::r) == [.type "ValueError", .type "Exception", .type "BaseException", .type "object"])=true from e))
 | .bool b::r,e=>by cases(eq_of_beq (show((Value.bool b::r) == [.type "ValueError", .type "Exception", .type "BaseException", .type "object"])=true from e))
 | .int b t::r,e=>by cases(eq_of_beq (show((Value.int b t::r) == [.type "ValueError", .type "Exception", .type "BaseException", .type "object"])=true from e))
 | .str b t::r,e=>by cases(eq_of_beq (show((Value.str b t::r) == [.type "ValueError", .type "Exception", .type "BaseException", .type "object"])=true from e))
 | .builtin b::r,e=>by cases(eq_of_beq (show((Value.builtin b::r) == [.type "ValueError", .type "Exception", .type "BaseException", .type "object"])=true from e))
theorem ao_6:∀{l:List Value},ba_5 l=true→l.contains (.type "object")=true∧l.isEmpty=false
 | [],e=>by cases e
 | .ref c::r,e=>⟨by rw [List.contains_cons,(ao_6 (l:=r) e).1,Bool.or_true],rfl⟩
 | .type n::r,e=>by
  have e':(Value.type n::r)= [.type "ValueError", .type "Exception", .type "BaseException", .type "object"]:=eq_of_beq e;rw [e'];exact⟨by decide,rfl⟩
 | .none::r,e=>by cases(eq_of_beq (show((Value.none::r) == [.type "ValueError", .type "Exception", .type "BaseException", .type "object"])=true from e))
 | .bool b::r,e=>by cases(eq_of_beq (show((Value.bool b::r) == [.type "ValueError", .type "Exception", .type "BaseException", .type "object"])=true from e))
 | .int b t::r,e=>by cases(eq_of_beq (show((Value.int b t::r) == [.type "ValueError", .type "Exception", .type "BaseException", .type "object"])=true from e))
 | .str b t::r,e=>by cases(eq_of_beq (show((Value.str b t::r) == [.type "ValueError", .type "Exception", .type "BaseException", .type "object"])=true from e))
 | .builtin b::r,e=>by cases(eq_of_beq (show((Value.builtin b::r) == [.type "ValueError", .type "Exception", .type "BaseException", .type "object"])=true from e))
structure XCls(K:Frag)(C:Addr):Prop where
 sa:findIn K (.ref C) "__setattr__" =some (some (.builtin "object.__setattr__"))
 over:(clsIn K C).any (fun cd=>ba_5 cd.mro && cd.hasDict)=true
section
variable{prog:Program}{w:World}{A:Around}{E:Value→Shared→Prop}{s:Shared}{K:Frag}{x C:Addr}{R:Result→Shared→Prop}
theorem cn_0{ox:Obj}{od:Option Obj}{name:Str}{tk:Tok}{v:Value}(X:K.In s.heap)(I:InstAt s.heap x ox C od)(xc:XCls K C)(ha:findIn K (.ref C) name=some none)
  (h:wpAny (model prog w) A.in1 (Builtin.ObjectAttr.storeInOwnDict (.ref x) (.ref C) (.str name tk) name v false)
   (fun fin s'=>match fin with| .done f=>R (.ok f) s'| .again c'=>c'.quiet=true∧codeAny (model prog w) A c' R s') (fun e s'=>R (.error e) s') s):
  codeAny (model prog w) A (.call (.builtin "object.__setattr__") ⟨[.ref x, .str name tk,v], []⟩) R s:=by
 have SF:=PySem.F.store_object;obtain⟨cd,hc,ho⟩:=any_some xc.over;rw [Bool.and_eq_true] at ho;obtain⟨hs1,hs2⟩:=ao_6 ho.1;have sub:Looks (model prog w) s.heap (isInstance (.ref x) (.type "object")) true:=I.type.andThen (looks_mroIn X (by unfold mroIn;rw [hc,Option.bind_some,if_neg (by rw [hs2];decide),hs1]));refine codeAny_call_builtin SF.slot.plain SF.entry (@check_slot (model prog w) _ _ s "object.__setattr__" "object" "__setattr__" (.ref x) [.str name tk,v] [] _ SF.kind SF.split sub (SF.args (.ref x) (.str name tk) v) ?_);have hm:Looks (model prog w) s.heap (mroOf (.ref C)) cd.mro:=(looks_clsIn X hc).andThen .now;rw [osa_eq,refuse_eq];refine wpAny_bind (wpAny_bind (I.type.here (wpAny_bind (hm.here ?_))));rw [ab_7 _ ho.1];refine wpAny_pure (wpAny_bind (I.type.here (wpAny_bind ((looks_findIn X ha).here (wpAny_bind (wpAny_pure (a:=(none:Option Value)) ?_))))));exact h
theorem bx_3{D:Addr}{name:Str}{tk:Tok}{v:Value}{Q:PySem.Fin→Shared→Prop}(hD:s.heap.get? D=some {cls:= .type "dict",data:= .dict #[]})
  (h:∀h' tk,h'.Ns1 D (fun y=>if y=name then some v else none)→Heap.SameBut D s.heap h'→Q (.done (.ret .none)) {s with heap:=h',toks:=tk}):wpAny (model prog w) A (Builtin.ObjectAttr.storeInDict D (.str name tk) name v) Q E s:=by
 have cq:s.heap.Ns D fun _=>none:=⟨_, #[],_,hD,rfl,fun _ he=>(Array.not_mem_empty _ he).elim,fun _=>rfl⟩;unfold Builtin.ObjectAttr.storeInDict Builtin.ObjectAttr.newKeyGuard
 wp_walk using wpAny_nsSet1 (Heap.Ns1.of_empty cq)
 intro h' n sb;obtain⟨o,es,ep,at1,is1,few⟩:=n.count (.cons name v .nil);have le:es.size≤sizeLine + 1:=Nat.le_trans few (by simp [sizeLine_eq]);exact wpAny_bind (wpAny_lookBehind at1 (is1▸pastItsLine_dict le) (wpAny_pure (h h' _ n sb)))
theorem bi_1{name:Str}{v:Value}{us:Array Value}{Q:Unit→Shared→Prop}(X:K.In s.heap)(hx:s.heap.get? x=some ⟨.ref C,none, .fields us, #[]⟩)(xc:XCls K C)(ha:findIn K (.ref C) name=some none)
  (h:∀h' tk,h'.get? x=some ⟨.ref C,some s.heap.objs.size, .fields us, #[]⟩→h'.Ns1 s.heap.objs.size (fun y=>if y=name then some v else none)→(∀b o,b≠x→s.heap.get? b=some o→h'.get? b=some o)→Q () {s with heap:=h',toks:=tk}):
  wpAny (model prog w) A (setAttr (.ref x) name v) Q E s:=by
 have I:InstAt s.heap x ⟨.ref C,none, .fields us, #[]⟩ C none:=⟨hx,rfl,rfl,True.intro⟩;refine set_plain X I xc.sa (cn_0 (s:={s with toks:=s.toks + 1}) X I xc ha ?_);obtain⟨cd,hc,hd'⟩:=any_some xc.over;rw [Bool.and_eq_true] at hd';refine wpAny_bind (wpAny_pure (wpAny_bind (wpAny_bind (wpAny_loadPart (s:={s with toks:=s.toks + 1}) hx (wpAny_bind (Looks.here (s:={s with toks:=s.toks + 1}) (looks_clsIn X hc) ?_))))));rw [hd'.2]
 
 have neD:x≠s.heap.objs.size:=Nat.ne_of_lt (Heap.lt_size hx);have old:∀b o,b≠x→s.heap.get? b=some o→((s.heap.push {cls:= .type "dict",data:= .dict #[]}).update x fun o=>{o with dict:=some s.heap.objs.size}).get? b=some o:=fun b o hb e=>by
  rw [Heap.get?_update_ne _ _ _ _ hb];exact Heap.get?_push_of_some _ e
 have itself:=Heap.get?_update_self (fun o:Obj=>{o with dict:=some s.heap.objs.size}) (Heap.get?_push_of_some {cls:= .type "dict",data:= .dict #[]} hx) rfl;have isD:((s.heap.push {cls:= .type "dict",data:= .dict #[]}).update x fun o=>{o with dict:=some s.heap.objs.size}).get? s.heap.objs.size=some {cls:= .type "dict",data:= .dict #[]}:=by
  rw [Heap.get?_update_ne _ _ _ _ (Ne.symm neD)];exact Heap.get?_push_size _ rfl
 refine wpAny_bind (wpAny_alloc' (wpAny_bind (wpAny_update' (Heap.get?_push_of_some _ hx) (wpAny_pure (bx_3 isD fun h' tk n sb=>h h' tk ?_ n fun b o hb e=> ?_)))))
 ·rw [sb.2 x neD];exact itself
 ·rw [sb.2 b (Nat.ne_of_lt (Heap.lt_size e))];exact old b o hb e
end
def XE(a:Addr)(o:Obj):HO:= .ext fun h=>h.get? a=some o
theorem XE.ok{w:World}{h:Heap}{a:Addr}{o:Obj}(e:h.get? a=some o):ObjOk P w H h a (XE a o):=⟨e,⟨o,e⟩,fun _ _ p k=>k _ p⟩
theorem XE.get{w:World}{h:Heap}{a:Addr}{o:Obj}(x:HOk P w H h)(e:H a=some (XE a o)):h.get? a=some o:=(x a _ e).1
theorem XO.ok{w:World}{h:Heap}{a C:Addr}{dx:Option Addr}{us:Array Value}{sl:Array (Option Value)}(e:h.get? a=some ⟨.ref C,dx, .fields us,sl⟩)(c2:us[2]? =some .none):ObjOk P w H h a (XO a C dx):=
 ⟨⟨us,sl,e,c2⟩,⟨_,e⟩,fun _ _ ⟨us,sl,p,c⟩ k=>⟨us,sl,k _ p,c⟩⟩
section
variable{X:Cx}{zd:List (Addr×Obj)}{σ:Sg}{H:Hp}{s:Shared}
theorem Inv.excSet{a:Addr}{o0 o1:Obj}{h':Heap}{t':Nat}{fs:List (Str×V)}{mA:Str→Option Value}(I:Inv X zd σ H s)(e:H a=some (XE a o0))(hx:h'.get? a=some o1)(hn:h'.Ns1 s.heap.objs.size mA)(hr:∀f,RelO (fs.lookup f) (mA f))
  (k:∀b o,b≠a→s.heap.get? b=some o→h'.get? b=some o):Inv X zd σ (upd (upd H s.heap.objs.size (.xd fs)) a (XE a o1)) {s with heap:=h',toks:=t'}:=by
 have hf:H s.heap.objs.size=none:=I.hok.fresh (Nat.le_refl _);have other:∀b u,H b=some u→b≠a→(upd (upd H s.heap.objs.size (.xd fs)) a (XE a o1)) b=some u:=fun b u q n=>by
  rw [b_1 n,b_1 (c_2 q hf)];exact q
 refine I.un (h':=h') ⟨fun b o q n _ _=>k b o (fun z=>by subst z;rw [e] at n;cases n) q,fun b o q n _ _=>⟨o.slots,k b o (fun z=>by subst z;rw [e] at n;cases n) q⟩,fun b o q n _=> ?_,fun b o q _=> ?_,fun b xs q=> ?_,fun b o u q=> ?_,fun b ps q=> ?_⟩ fun b u q=> ?_
 ·rw [b_1 (fun z=>by subst z;rw [e] at n;cases n),b_1 (Nat.ne_of_lt (Heap.lt_size q))];exact n
 ·by_cases z:b=a
  ·subst z;exact⟨_,hx⟩
  ·exact⟨_,k b o z q⟩
 ·exact other b _ q fun z=>by subst z;rw [e] at q;cases q
 ·exact other b _ q fun z=>by subst z;rw [e] at q;cases q
 ·exact⟨#[],by rw [other b _ q fun z=>by subst z;rw [e] at q;cases q];simp⟩
 ·by_cases z:b=a
  ·subst z;rw [b_4] at q;cases q;exact XE.ok hx
  ·rw [b_1 z] at q
   by_cases z2:b=s.heap.objs.size
   ·subst z2;rw [b_4] at q;cases q;exact⟨mA,hn,hr⟩
   ·rw [b_1 z2] at q;refine(I.hok b u q).stay (fun c v hc z3=>k c v ?_ z3) (fun c z3=>other c _ z3 fun z4=> ?_) fun c xs z3=>other c _ z3 fun z4=> ?_
    ·rcases hc with rfl|hc
     ·exact z
     ·exact fun z4=>by subst z4;rw [e] at hc;cases hc
    ·subst z4;rw [e] at z3;cases z3
    ·subst z4;rw [e] at z3;cases z3
theorem Inv.forget{a:Addr}{φ:Heap→Prop}(I:Inv X zd σ (upd H a (.ext φ)) s)(hn:H a=none):Inv X zd σ H s:=by
 have sub:∀b u,H b=some u→upd H a (.ext φ) b=some u:=fun b u e=>by rw [b_1 (c_2 e hn)];exact e
 have nf:∀b,upd H a (.ext φ) b=none→H b=none:=fun b e=>by
  by_cases z:b=a
  ·subst z;exact hn
  ·rw [b_1 z] at e;exact e
 have bk:∀b u,upd H a (.ext φ) b=some u→(∀ψ,u≠ .ext ψ)→H b=some u:=fun b u e n=>by
  by_cases z:b=a
  ·subst z;rw [b_4] at e;cases e;exact absurd rfl (n φ)
  ·rw [b_1 z] at e;exact e
 have B:=I.base;refine⟨I.ok,I.os,I.bare,⟨B.keep,B.slot,fun b u q n x=>nf b (B.free b u q n x),B.there,fun b xs q=>bk _ _ (B.tups b xs q) (fun _ z=>nomatch z),fun b u v q=>bk _ _ (B.frzs b u v q) (fun _ z=>nomatch z),fun b ps q=> ?_⟩,I.loc,I.cell,nf _ I.free,fun x c e=>nf _ (I.freeC x c e),fun p hp=> ?_,fun b u e=> ?_,I.len⟩
 ·obtain⟨more,z⟩:=B.tbls b ps q;exact⟨more,bk _ _ z (fun _ z=>nomatch z)⟩
 ·obtain⟨p1,p2,p3⟩:=I.pin p hp;exact⟨p1,nf _ p2,p3⟩
 ·exact(I.hok b u (sub b u e)).stay (fun _ _ _ q=>q) (fun c q=>bk _ _ q (fun _ z=>nomatch z)) (fun c xs q=>bk _ _ q (fun _ z=>nomatch z))
end
def ah_9(C:Addr)(f:Str):Sp:=fun vs H Q _=>∃a v us,vs= [.ref a,v]∧H a=some (XE a ⟨.ref C,none, .fields us, #[]⟩)∧∀d,H d=none→d≠a→Q .non (upd (upd H d (.xd [(f,v)])) a (XE a ⟨.ref C,some d, .fields us, #[]⟩))
section
variable{X:Cx}{C:Addr}{f:Str}{pos pos' p1 p2:Pos}{x y:Str}
def cq_1(C:Addr)(f:Str):TS:=fun D σ H=>∃a v us,σ[0]? =some (some (.ref a))∧σ[1]? =some (some v)∧H a=some (XE a ⟨.ref C,none, .fields us, #[]⟩)∧∀d,H d=none→d≠a→D.nx σ (upd (upd H d (.xd [(f,v)])) a (XE a ⟨.ref C,some d, .fields us, #[]⟩))
theorem ba_6(xc:XCls X.K C)(hn:findIn X.K (.ref C) f=some none)(ho:PE X (.Name x p1) (tVar 0))(hv:PE X (.Name y p2) (tVar 1))(hs:swapsWith (.Name y p2) (some (.Attribute (.Name x p1) f pos')) pos.line X.env=pure false:=by rfl):
  PS X (.Assign [.Attribute (.Name x p1) f pos'] (.Name y p2) pos) (cq_1 C f):=by
 intro zd s σ H D I h;obtain⟨a,v,us,e0,e1,ha,q⟩:=h;refine plainObj_wpAny_Assign_Attribute (thn (hv zd s σ H (fun y H1=>y=v∧H1=H) I ⟨v,e1,rfl,rfl⟩) fun u s1 ⟨y,H1,I1,ry,ey,eH⟩=>thn (ho zd s1 σ H1 (fun y H2=>y= .ref a∧H2=H) I1 ⟨.ref a,e0,rfl,eH⟩) fun ov s2 ⟨x,H2,I2,rx,ex,eH2⟩=> ?_) hs;subst ey ex eH eH2;obtain rfl:ov=Value.ref a:=rx;refine bi_1 I2.kIn (XE.get I2.hok ha) xc hn fun h' tk g1 g2 g3=> ?_;refine⟨σ,_,Inv.excSet I2 (t':=tk) (fs:= [(f,y)]) ha g1 g2 (fun g=> ?_) g3,q _ (I2.hok.fresh (Nat.le_refl _)) ?_⟩
 ·show RelO ([(f,y)].lookup g) (if g=f then some u else none)
  by_cases z:g=f
  ·subst z;rw [if_pos rfl];simp only [List.lookup_cons,beq_self_eq_true];exact ry
  ·rw [if_neg z];have zb:(g ==f)=false:=by simpa using z
   simp only [List.lookup_cons,zb,List.lookup_nil]
   trivial
 ·exact Nat.ne_of_gt (Heap.lt_size (XE.get I2.hok ha))
end
abbrev bmVE:List Value:= [.type "ValueError", .type "Exception", .type "BaseException", .type "object"]
def h_5(es:Array DictEntry):Bool:=es.toList.all fun e=>match e.key with| .str _ _=>true|_=>false
theorem bn_5{es:Array DictEntry}(h:h_5 es=true):StrKeys es:=fun e he=>by
 have q:=List.all_eq_true.mp h e (Array.mem_toList_iff.mpr he);revert q;cases hk:e.key with
 |str n t=>intro _;exact⟨n,t,rfl⟩
 |_=>intro q;cases q
theorem bs_0{N:Addr}{oc:Value}{od:Option Addr}{es:Array DictEntry}{ep:Nat}{sl:Array (Option Value)}(l:K.lookup N=some ⟨oc,od, .dict es ep,sl⟩)(k:h_5 es=true){h:Heap}(X:K.In h):h.Ns N (nsFind es):=
 ⟨_,es,ep,X _ _ l,rfl,bn_5 k,fun _=>rfl⟩
def XMk(K:Frag)(C fI:Addr):Prop:=∃(nm q:Str) (N:Addr) (bs bm:List Value) (sn:List Str) (sub:List Value) (ab:Bool) (col:Option Bool) (dd:Option Addr) (k0 k1 k2 k3 k5:Option Value) (mN:Str→Option Value),
 K.lookup C=some (excClassObj nm q C N bs bm true sn sub ab col dd k0 k1 k2 k3 k5 "ValueError.__new__")∧(∀h:Heap,K.In h→OwnTail h bmVE bm)∧(∀h:Heap,K.In h→h.Ns N mN)∧mN "__init__" =some (.ref fI)
theorem bn_6{C fI N L:Addr}{nm q:Str}{bs:List Value}{sn:List Str}{sub:List Value}{ab:Bool}{col:Option Bool}{dd:Option Addr}{k0 k1 k2 k3 k5:Option Value}{oc c0 oL:Value}{od ddL odL:Option Addr}{es esL:Array DictEntry}{ep epL:Nat}{sl sl0 slL:Array (Option Value)}{cd:ClassData}
  (lc:K.lookup C=some (excClassObj nm q C N bs (.ref L::bmVE) true sn sub ab col dd k0 k1 k2 k3 k5 "ValueError.__new__")) (ln:K.lookup N=some ⟨oc,od, .dict es ep,sl⟩) (kn:h_5 es=true) (hi:nsFind es "__init__" =some (.ref fI))
  (ll:K.lookup L=some ⟨c0,ddL, .cls cd,sl0⟩) (lm:K.lookup cd.ns=some ⟨oL,odL, .dict esL epL,slL⟩) (km:h_5 esL=true) (hL:nsFind esL "__init__" =none):XMk K C fI:=
 ⟨nm,q,N,bs,_,sn,sub,ab,col,dd,k0,k1,k2,k3,k5,nsFind es,lc,fun h X=> .own (X _ _ ll) (bs_0 lm km X) hL .base,fun h X=>bs_0 ln kn X,hi⟩
theorem ba_7{C N L:Addr}{nm q:Str}{bs:List Value}{sn:List Str}{sub:List Value}{ab:Bool}{col:Option Bool}{dd:Option Addr}{k0 k1 k2 k3 k5:Option Value}
  (lc:K.lookup C=some (excClassObj nm q C N bs (.ref L::bmVE) true sn sub ab col dd k0 k1 k2 k3 k5 "ValueError.__new__")) (sa:findIn K (.ref C) "__setattr__" =some (some (.builtin "object.__setattr__"))):XCls K C:=
 ⟨sa,by unfold clsIn;rw [lc];rfl⟩
theorem ba_8{c:Bool}{w:World}{x qual sf at_ fl:Str}{st:Stmt}{f C:Addr}{k:Nat}(F:Fun K x qual st f fd)(S:FnScope [sf,at_] [sf,at_] (b_0 st))
  (zj:∀(zn:Value) (A:Around) (outer:List Env) (s:Shared) (H:Hp) (E:XK),PSs (cxN c P w K mg base [sf,at_] qual (b_0 st) f zn A outer s H E) (e_2 st) (cq_1 C fl)):FnX P w K mg base c (k + 1) f fd [sf,at_] (ah_9 C fl):=by
 refine Fun.okX F S (fun vs H Q E h=> ?_) fun zn A outer s H vs Q E hr h=>⟨_,zj zn A outer s H E, ?_⟩
 ·obtain⟨a,v,us,rfl,_⟩:=h;rfl
 ·obtain⟨a,v,us,rfl,ha,q⟩:=h;exact⟨a,v,us,rfl,rfl,ha,q⟩
theorem ai_0{h:Heap}:∀{bm:List Value},OwnTail h bmVE bm→bm.contains (.type "BaseException")=true
 |_, .base=>by decide
 |_, .own _ _ _ t=>by rw [List.contains_cons,ai_0 t,Bool.or_true]
structure XC(P:Program)(w:World)(K:Frag)(mg:Str→Option Value)(base:Heap)(c:Str)(f:Str)(C:Addr):Prop where
 at_:ClsAt K c C
 glob:mg c=some (.ref C)
 kp:keepIn K (.ref C)=true
 xc:XCls K C
 made:∃(fI:Addr) (fd:FuncData) (ps:List Str) (oI:Obj),XMk K C fI∧K.lookup fI=some oI∧oI.cls= .type "function" ∧FnX P w K mg base false 1 fI fd ps (ah_9 C f)∧Binds K fd ps []
section
variable{X:Cx}{zd:List (Addr×Obj)}{σ:Sg}{H:Hp}{s:Shared}{C:Addr}{c f:Str}
theorem ce_1{e d:Addr}{o0 o1 x:HO}:upd (upd (upd H e o0) d x) e o1=upd (upd H d x) e o1:=by
 funext b
 unfold upd
 by_cases z:b=e
 ·rw [if_pos z,if_pos z]
 ·rw [if_neg z,if_neg z,if_neg z]
theorem bx_4{u:Value}{Q:Value→Shared→Prop}{E:Value→Shared→Prop}(M:XC X.prog X.w X.K X.mg X.base c f C)(hr:RoomC false 2 X.A)(I:Inv X zd σ H s)(r:RelV v u)
  (h:∀a d t s',H a=none→H d=none→d≠a→s.heap.objs.size≤a→Inv X zd σ (upd (upd H d (.xd [(f,v)])) a (XE a ⟨.ref C,some d, .fields #[.ref t, .none, .none, .none, .bool false, .none], #[]⟩)) s'→Q (.ref a) s'):
  wpAny (model X.prog X.w) X.A (call (.ref C) [u]) Q E s:=by
 obtain⟨fI,fd,ps,oI,⟨nm,q,N,bs,bm,sn,sub,ab,col,dd,k0,k1,k2,k3,k5,mN,lc,tl,hn,hi⟩,lI,hI,F,hb⟩:=M.made;have KX:=I.kIn;obtain⟨hh,g,dr,tk,os⟩:=s;refine cc_1 PySem.F.excBase_ValueError (tl hh KX) (KX _ _ lc) (hn hh KX) hi (KX _ _ lI) hI (fun h' e me ze=> ?_) (by show 1≤sizeLine;rw [sizeLine_eq];omega);obtain⟨kk,new,t,et,_,_⟩:=me;have I2:Inv X zd σ (upd H e (XE e ⟨.ref C,none, .fields #[.ref t, .none, .none, .none, .bool false, .none], #[]⟩)) ⟨h',g,dr,tk,os⟩:=I.laid (h':=h') (t':=tk) kk ze (XE.ok et);have he:H e=none:=I.hok.fresh ze;have r2:Vals [.ref e,v] [.ref e,u]:= .cons rfl (.cons r .nil);have sp:ah_9 C f [.ref e,v] (upd H e (XE e ⟨.ref C,none, .fields #[.ref t, .none, .none, .none, .bool false, .none], #[]⟩)) (fun y H2=>y= .non∧∃d,H d=none∧d≠e∧H2=upd (upd H d (.xd [(f,v)])) e (XE e ⟨.ref C,some d, .fields #[.ref t, .none, .none, .none, .bool false, .none], #[]⟩)) (fun _ _ _=>False):=
  ⟨e,v,_,rfl,b_4,fun d hd ne=>⟨rfl,d,by rw [b_1 ne] at hd;exact hd,ne,ce_1⟩⟩
 have hl: [Value.ref e,u].length=ps.length:=F.len _ _ _ _ sp;have hb':=hb ⟨h',g,dr,tk,os⟩ [.ref e,u] I2.kIn (by rw [List.append_nil];exact hl);rw [List.append_nil] at hb';refine wpAny_call (codeAny_mono (F.run _ X.stack _ _ ⟨[.ref e,u], []⟩ [.ref e,u] [.ref e,v] _ _ (hr.make C [u] []) (I2.env0.make C [u] []) hb' r2 sp) fun r s' hq=> ?_);cases r with
 |error x=>
  obtain⟨a,C',dx,T,H',_,_,_,_,_,_,_,_,_,_,z⟩:=hq;exact z.elim
 |ok fl=>
  cases fl with
  |ret y=>
   obtain⟨v',H',I3,rv,ev,d,hd,ne,eH⟩:=I2.after hq;subst ev eH;exact⟨rv,h e d t s' he hd ne ze I3⟩
  |next=>exact False.elim hq
  |brk=>exact False.elim hq
  |cont=>exact False.elim hq
def Lk1(X:Cx)(EX:EXS):Prop:=∀(zd:List (Addr×Obj)) (σ:Sg) (H H':Hp) (s s':Shared) (a C:Addr) (dx:Option Addr) (o:Obj) (us:Array Value),Inv X zd σ H s→Inv X zd σ H' s'→s'.heap.get? a=some o→o.cls= .ref C→o.dict=dx→o.data= .fields us→us[1]? =some .none→us[2]? =some .none→
 H' a=none→s.heap.objs.size≤a→EXE X.K (EX σ) (.ref C) dx H'→X.xe (.ref a) s'
theorem af_1{cm:Bool}{w:World}{N:List Str}{qual:Str}{scope:Scope}{f:Addr}{cd:Value}{A:Around}{outer:List Env}{s:Shared}{E:XK}:
  Lk1 (cxN cm P w K mg base N qual scope f cd A outer s H E) (fun _=>EXof K E):=fun zd σ H H' s s' a C dx o us I I' he hc hx hd h1 c2 n1 z1 q=>ax_8 I I' he hc hx hd h1 c2 n1 z1 q.of
def q_2(c f:Str)(js:List Nat)(fe:FE):FS:=fun Δ=>match fe (vsh (gsome js Δ)) with
 | .ok w=> .ex ⟨c, [f], [w.d]⟩ (gsome js Δ)
 | .ex x=> .ex x (gsome js Δ)
 | .no=> .no
theorem af_2{EX:EXS}(js:List Nat){e:Expr}{fe:FE}{np zf pos:Pos}(M:XC X.prog X.w X.K X.mg X.base c f C)(hr:RoomC true 2 X.A)(l1:Lk1 X EX)(he:ED X EX e fe)(hg:Gl X c:=by rfl)(hdb:(c ==("__debug__" :Str))=false:=by decide)
  (hs:starEach [e] X.env=(false,eval e X.env)::starEach [] X.env:=by rfl) (hpl:(backTo zf (starEach [] X.env)).any (·.1)=false:=by rfl):
  SD X EX (.Raise (some (.Call (.Name c np) [e] [] zf)) none pos) (q_2 c f js fe):=by
 intro zd s σ H D I q;obtain⟨H0,G0,G,Δ,O,E,q⟩:=q;obtain⟨G',O',sg,E'⟩:=E.gsome js;obtain⟨fI,fd,ps,oI,⟨nm,qn,N,bs,bm,sn,sub,ab,col,dd,k0,k1,k2,k3,k5,mN,lc,tl,hn,hi⟩,lI,hI,F,hb⟩:=M.made;have hB:bm.contains (.type "BaseException")=true:=ai_0 (tl s.heap I.kIn);rw [arm_exec_Raise];have tD0:tD X.K EX fe σ H fun v H1=>∃v' w G1, [v]= [v']∧fe (vsh (gsome js Δ))= .ok w∧Step G' H G1 H1∧Has X.K G1 v' w.d:=by
  refine⟨G',vsh (gsome js Δ),E'.st.gh,E'.gsh, ?_⟩;unfold q_2 at q;cases e1:fe (vsh (gsome js Δ)) with
  |ok w=>exact WP.intro fun v G1 H1 st r=>⟨v,w,G1,rfl,rfl,st,r⟩
  |ex x=>rw [e1] at q;exact q σ G' H O' E' sg
  |no=>rw [e1] at q;exact q
 have mk:wpAny (model X.prog X.w) X.A (eval (.Call (.Name c np) [e] [] zf) X.env) (fun v s1=>∃a t dx,v= .ref a∧s1.heap.get? C=some (excClassObj nm qn C N bs bm true sn sub ab col dd k0 k1 k2 k3 k5 "ValueError.__new__")∧
   s1.heap.get? a=some {cls:= .ref C,dict:=dx,data:= .fields #[.ref t, .none, .none, .none, .bool false, .none]}∧X.xe (.ref a) s1) X.xe s:=by
  refine wpAny_Call_Name_kw (q_7 I hg M.glob ?_ hdb);refine callWith_K (h₀:=X.base) I.ok.mod.kin M.kp (thn (i_7 he t_1 hs zf zd s σ H (fun vs H1=>∃v' w G1,vs= [v']∧fe (vsh (gsome js Δ))= .ok w∧Step G' H G1 H1∧Has X.K G1 v' w.d) I tD0) fun us s1 ⟨vs,H1,I1,r,v,w,G1,ev,ew,st,hv⟩=>⟨I1.kIn, ?_⟩) hs hpl;subst ev;obtain⟨u,rfl,ru⟩:=r.one;refine bx_4 M hr.loose I1 ru fun a d t s2 ha hd ne za I2=> ?_;have ga:=XE.get I2.hok b_4;refine⟨a,t,some d,rfl,I2.kIn _ _ lc,ga, ?_⟩;have I3:Inv X zd σ (upd H1 d (.xd [(f,v)])) s2:=Inv.forget I2 (by rw [b_1 ne.symm];exact ha);refine l1 zd σ H1 _ s1 s2 a C (some d) _ _ I1 I3 ga rfl rfl rfl rfl rfl (by rw [b_1 ne.symm];exact ha) za ?_;have st2:Step G1 H1 (upd G1 d (.xd [(f,v)])) (upd H1 d (.xd [(f,v)])):=Step.new st.gh hd _;refine⟨⟨c, [f], [w.d]⟩,upd G1 d (.xd [(f,v)]),st2.gh, .with_ M.at_ b_4 rfl (.cons (hv.mono st2.gg) .nil), ?_⟩;unfold q_2 at q;rw [ew] at q;exact q σ _ _ O' ((E'.grow st).grow st2) (sg.trans (st.gg.trans st2.gg))
 refine wpAny_bind (wpAny_standAt (au_5 hB (hr.hd rfl) (wpAny_bind (wpAny_mono mk (fun v s3 h3=>wpAny_bind (wpAny_standAt (wpAny_pure h3))) fun _ _ x=>x))))
end
section
variable{X:Cx}{zd:List (Addr×Obj)}{σ:Sg}{H:Hp}{s:Shared}
theorem aa_9{M:Model}{A:Around}{E:Value→Shared→Prop}{i:Nat}{n:Str}{Q:Unit→Shared→Prop}(I:Inv X zd σ H s)(hN:X.N.Nodup)(hi:X.N[i]? =some n)(hk:X.env.scope.names.lookup n=some .local)
  (h:∀s',Inv X zd (σ.set i none) H s'→Q () s'):wpAny M A (do bindName X.env n .none;unbindBehindTheSuite X.env n pos) Q E s:=by
 obtain⟨m,hn,hl⟩:=id I.loc;have bq:(X.env.scope.kind == .class || (X.env.scope.kind == .module && X.env.locals != X.env.globals))=false:=by rw [I.ok.kind];rfl
 have hiσ:i < σ.length:=by rw [I.len];exact(List.getElem?_eq_some_iff.mp hi).1
 have cne:=I.cne;have tracked:∀{a:Addr} {h':Heap},(∃o,s.heap.get? a=some o∧H a=none)→Heap.SameBut a s.heap h'→HOk X.prog X.w H h':=fun{a h'} ha hs b ob e=>by
  obtain⟨_,_,aj⟩:=ha;refine(I.hok b ob e).stay (fun c w' hc q=>(hs.2 c ?_).trans q) (fun _ q=>q) fun _ _ q=>q
  rintro rfl
  rcases hc with rfl|hc
  ·rw [aj] at e;cases e
  ·rw [aj] at hc;cases hc
 refine wpAny_nameGoes_keeps hk hn bq fun h' v hn' hs=> ?_;obtain⟨oL,_,_,hoL,_⟩:=id hn;refine h _ ⟨I.ok,I.os,I.bare,⟨fun b o e n hb hx=> ?_,fun b o e n hb hx=> ?_,I.base.free,fun b o e hx=> ?_,I.base.tups,I.base.frzs,I.base.tbls⟩,⟨_,hn',fun j y v' e1 e2 e3=> ?_⟩,fun y c e=> ?_,I.free,I.freeC,fun p hp=> ?_,tracked ⟨oL,hoL,I.free⟩ hs,by simpa using I.len⟩
 ·exact(hs.2 b (Nat.ne_of_lt (Nat.lt_of_lt_of_le (Heap.lt_size e) I.ok.above))).trans (I.base.keep b o e n hb hx)
 ·obtain⟨sl,e1⟩:=I.base.slot b o e n hb hx;exact⟨sl,(hs.2 b (Nat.ne_of_lt (Nat.lt_of_lt_of_le (Heap.lt_size e) I.ok.above))).trans e1⟩
 ·obtain⟨o',e1⟩:=I.base.there b o e hx;exact⟨o',(hs.2 b (Nat.ne_of_lt (Nat.lt_of_lt_of_le (Heap.lt_size e) I.ok.above))).trans e1⟩
 ·by_cases hj:j=i
  ·subst hj;rw [List.getElem?_set_self hiσ] at e2;cases e2
  ·rw [List.getElem?_set_ne (Ne.symm hj)] at e2;obtain⟨u',r',q⟩:=hl j y v' e1 e2 e3;refine⟨u',r', ?_⟩;rcases q with⟨k,e⟩|⟨k,c,e,z⟩
   ·refine .inl ⟨k, ?_⟩;have:y≠n:=fun e=>hj (am_9 hN e1 (e▸hi));simp [this,e]
   ·exact .inr ⟨k,c,e,z.sameBut hs (cne y c e)⟩
 ·obtain⟨w',z⟩:=I.cell y c e;exact⟨w',z.sameBut hs (cne y c e)⟩
 ·obtain⟨e,n,ne,nf,d⟩:=I.pin p hp;exact⟨(hs.2 p.1 ne).trans e,n,ne,nf,d⟩
theorem Inv.speak{H':Hp}{s':Shared}{a C:Addr}{dx:Option Addr}{us:Array Value}{sl:Array (Option Value)}(I:Inv X zd σ H s)(I':Inv X zd σ H' s')(za:s.heap.objs.size≤a)(e:s'.heap.get? a=some ⟨.ref C,dx, .fields us,sl⟩)(c2:us[2]? =some .none)(hn:H' a=none):Inv X zd σ (upd H' a (.frz ⟨.ref C,dx, .fields us,sl⟩ (XO a C dx))) s':=by
 have B:=I'.base;have ns:∀b o,X.s₀.heap.get? b=some o→b≠a:=fun b o q z=>absurd (Nat.lt_of_lt_of_le (Heap.lt_size q) (Nat.le_trans I.sz za)) (by rw [z];exact Nat.lt_irrefl _);have lt:∀b:Addr,b < s.heap.objs.size→b≠a:=fun b h z=>absurd (Nat.lt_of_lt_of_le h za) (by rw [z];exact Nat.lt_irrefl _);have up:∀b u,H' b=some u→upd H' a (.frz ⟨.ref C,dx, .fields us,sl⟩ (XO a C dx)) b=some u:=fun b u q=>by rw [b_1 (c_2 q hn)];exact q
 refine⟨I'.ok,I'.os,I'.bare,⟨B.keep,B.slot,fun b o q n x=>by rw [b_1 (ns b o q)];exact B.free b o q n x,B.there,fun b xs q=>up _ _ (B.tups b xs q),fun b o u q=>up _ _ (B.frzs b o u q),fun b ps q=>let⟨m,z⟩:=B.tbls b ps q;⟨m,up _ _ z⟩⟩,I'.loc,I'.cell, ?_,fun x c q=> ?_,fun p hp=> ?_,fun b u q=> ?_,I'.len⟩
 ·rw [b_1 (lt _ I.lt)];exact I'.free
 ·obtain⟨v,hv⟩:=I.cell x c q;rw [b_1 (lt _ hv.lt)];exact I'.freeC x c q
 ·obtain⟨p1,p2,p3⟩:=I'.pin p hp;exact⟨p1,by rw [b_1 (lt _ (Heap.lt_size (I.pin p hp).1))];exact p2,p3⟩
 ·by_cases z:b=a
  ·subst z;rw [b_4] at q;cases q;exact⟨e,XO.ok e c2⟩
  ·rw [b_1 z] at q;exact(I'.hok b u q).stay (fun _ _ _ q=>q) (fun c q=>up _ _ q) fun c xs q=>up _ _ q
end
def tryB(X:Cx)(zd:List (Addr×Obj))(W:Value→Shared→Prop):Cx:={X with pn:=X.pn ++ zd,xe:=W}
structure HX where
 a:Addr
 C:Addr
 dx:Option Addr
 us:Array Value
 sl:Array (Option Value)
 c2:us[2]? =some .none
def HX.ho(e:HX):HO:= .frz ⟨.ref e.C,e.dx, .fields e.us,e.sl⟩ (XO e.a e.C e.dx)
def hand(X:Cx)(e:HX):Cx:={X with A:=X.A.mark (some (.ref e.a)),calm:=false,xe:=fun _ _=>False,H₀:=upd X.H₀ e.a e.ho}
section
variable{X:Cx}{zd ai:List (Addr×Obj)}{σ:Sg}{H:Hp}{s:Shared}{W:Value→Shared→Prop}{e:HX}
theorem ok_tryB:(tryB X zd W).Ok↔X.Ok:=⟨fun ok=>⟨ok.mod,ok.kind,ok.glob,ok.blt,ok.above,ok.inj,ok.has,ok.cab,ok.hd,ok.frames,ok.stk,ok.exf,ok.bs,ok.bsz,ok.noex,ok.exfs,ok.funs,ok.frf⟩,
 fun ok=>⟨ok.mod,ok.kind,ok.glob,ok.blt,ok.above,ok.inj,ok.has,ok.cab,ok.hd,ok.frames,ok.stk,ok.exf,ok.bs,ok.bsz,ok.noex,ok.exfs,ok.funs,ok.frf⟩⟩
theorem Inv.toB(I:Inv X zd σ H s):Inv (tryB X zd W) [] σ H s:=⟨ok_tryB.mpr I.ok,I.os,I.bare,I.base,I.loc,I.cell,I.free,I.freeC,fun p hp=>I.pin p (by have hp:p∈(X.pn ++ zd) ++ []:=hp;rwa [List.append_nil] at hp),I.hok,I.len⟩
theorem Inv.ofB(I:Inv (tryB X zd W) ai σ H s):Inv X zd σ H s:=⟨ok_tryB.mp I.ok,I.os,I.bare,I.base,I.loc,I.cell,I.free,I.freeC,fun p hp=>I.pin p (List.mem_append_left _ hp),I.hok,I.len⟩
theorem SP.ofB{D:Ends}{f:Flow}(h:SP (tryB X zd W) ai D f s):SP X zd D f s:=by
 cases f with
 |next=>obtain⟨σ',H',I,q⟩:=h;exact⟨σ',H',Inv.ofB I,q⟩
 |brk=>obtain⟨σ',H',I,q⟩:=h;exact⟨σ',H',Inv.ofB I,q⟩
 |cont=>obtain⟨σ',H',I,q⟩:=h;exact⟨σ',H',Inv.ofB I,q⟩
 |ret u=>obtain⟨v,σ',H',I,r,q⟩:=h;exact⟨v,σ',H',Inv.ofB I,r,q⟩
theorem Un.hput{fs ex:List Addr}{H0 H':Hp}{h h':Heap}{a:Addr}{o:Obj}{u:HO}(U:Un fs ex H0 H' h h')(z:h.objs.size≤a)(q:H' a=some (.frz o u)):Un fs ex (upd H0 a (.frz o u)) H' h h':=by
 have nb:∀b o,h.get? b=some o→b≠a:=fun b o g e=>absurd (Heap.lt_size g) (by rw [e];exact Nat.not_lt.mpr z);refine⟨fun b o g n=>U.keep b o g (by rwa [b_1 (nb b o g)] at n),fun b o g n=>U.slot b o g (by rwa [b_1 (nb b o g)] at n),fun b o g n=>U.free b o g (by rwa [b_1 (nb b o g)] at n),U.there,fun b xs e=> ?_,fun b ob v e=> ?_,fun b ps e=> ?_⟩
 all_goals
  by_cases hb:b=a
  ·subst hb;rw [b_4] at e;cases e
   try exact q
  ·rw [b_1 hb] at e
   first|exact U.tups b _ e|exact U.frzs b _ _ e|exact U.tbls b _ e
theorem Un.htake{fs ex:List Addr}{H0 H1 H':Hp}{h h1 h':Heap}{a:Addr}{v:HO}(U0:Un fs ex H0 H1 h h1)(n:H1 a=none)(U:Un fs ex (upd H0 a v) H' h h')(z:h.objs.size≤a):Un fs ex H0 H' h h':=by
 have nb:∀b o,h.get? b=some o→b≠a:=fun b o g e=>absurd (Heap.lt_size g) (by rw [e];exact Nat.not_lt.mpr z);refine⟨fun b o g q=>U.keep b o g (by rwa [b_1 (nb b o g)]),fun b o g q=>U.slot b o g (by rwa [b_1 (nb b o g)]),fun b o g q=>U.free b o g (by rwa [b_1 (nb b o g)]),U.there,fun b xs e=> ?_,fun b ob v e=> ?_,fun b ps e=> ?_⟩
 ·by_cases hb:b=a
  ·subst hb;have:=U0.tups b xs e;rw [n] at this;cases this
  ·exact U.tups b xs (by rwa [b_1 hb])
 ·by_cases hb:b=a
  ·subst hb;have:=U0.frzs b ob v e;rw [n] at this;cases this
  ·exact U.frzs b ob v (by rwa [b_1 hb])
 ·by_cases hb:b=a
  ·subst hb;obtain⟨m,q⟩:=U0.tbls b ps e;rw [n] at q;cases q
  ·exact U.tbls b ps (by rwa [b_1 hb])
theorem Inv.toH(I:Inv X zd σ H s)(z:X.s₀.heap.objs.size≤e.a)(q:H e.a=some e.ho):Inv (hand X e) zd σ H s:=by
 have nb:∀b o,X.s₀.heap.get? b=some o→b≠e.a:=fun b o g y=>absurd (Heap.lt_size g) (by rw [y];exact Nat.not_lt.mpr z);refine⟨⟨I.ok.mod,I.ok.kind,I.ok.glob,I.ok.blt,I.ok.above,I.ok.inj,I.ok.has,I.ok.cab,fun z=>absurd z Bool.false_ne_true,I.ok.frames,I.ok.stk,I.ok.exf,fun b o g=> ?_,I.ok.bsz,I.ok.noex,I.ok.exfs,I.ok.funs,fun b hb=> ?_⟩,I.os,I.bare,Un.hput I.base z q,I.loc,I.cell,I.free,I.freeC,I.pin,I.hok,I.len⟩
 ·obtain⟨g1,g2⟩:=I.ok.bs b o g;exact⟨g1,(b_1 (nb b o g1)).trans g2⟩
 ·obtain⟨_,u,hu,_⟩:=I.ok.funs.mem hb;exact(b_1 (nb b u hu)).trans (I.ok.frf b hb)
theorem Inv.ofH{p0:List (Addr×Obj)}{σ0:Sg}{H0:Hp}{s0:Shared}(J:Inv X p0 σ0 H0 s0)(n:H0 e.a=none)(z:X.s₀.heap.objs.size≤e.a)(I:Inv (hand X e) zd σ H s):Inv X zd σ H s:=⟨J.ok,I.os,I.bare,Un.htake J.base n I.base z,I.loc,I.cell,I.free,I.freeC,I.pin,I.hok,I.len⟩
end
def cq_2(i:Nat):Fl→Fl
 | .nx Δ=> .nx (Δ.set i .no)
 | .bk Δ=> .bk (Δ.set i .no)
 | .ct Δ=> .ct (Δ.set i .no)
 | .rt w=> .rt w
 |_=> .no
def Catches(K:Frag)(C2:Addr)(tb:List (Str×Bool)):Prop:=∀c b,tb.lookup c=some b→∀C,ClsAt K c C→exmOne K (.ref C) (.ref C2)=some b
theorem Ev.drop{H0:HB}{G0 G H:Hp}{σ:Sg}{Δ:SE}{O:OS}(E:Ev K H0 G0 G H σ Δ O)(i:Nat):Ev K H0 G0 G H (σ.set i none) (Δ.set i .no) O:=by
 refine⟨E.st,by rw [List.length_set,List.length_set];exact E.len,fun j d e=> ?_,fun j z d e zo=> ?_,E.out,E.dj,fun j d e=> ?_,fun j d e=> ?_⟩
 ·rcases h_6 e with⟨rfl,q⟩|⟨n,q⟩
  ·cases q
  ·rw [List.getElem?_set_ne n];exact E.sh j d q
 ·rcases h_6 e with⟨rfl,q⟩|⟨n,q⟩
  ·subst q;cases zo
  ·rw [List.getElem?_set_ne n];exact E.ow j z d q zo
 ·rcases h_6 e with⟨rfl,q⟩|⟨n,q⟩
  ·cases q
  ·rw [List.getElem?_set_ne n];exact E.lk j d q
 ·rcases h_6 e with⟨rfl,q⟩|⟨n,q⟩
  ·cases q
  ·rw [List.getElem?_set_ne n];exact E.lt j d q
section
variable{X:Cx}{EX:EXS}{i:Nat}{tb:List (Str×Bool)}{g h:FS}{c n:Str}{C2:Addr}{body af:List Stmt}{b₀:Stmt}{np hp pos:Pos}
theorem Has.exc{G:Hp}{a C:Addr}{dx:Option Addr}{o:Obj}{x:Xn}(hn:G a=none)(e:ExcAt K G (.ref C) dx x):Has K (upd G a (.frz o (XO a C dx))) (.ref a) (.exn x.c x.ns x.vs):=by
 cases e with
 |bare hc=>exact .exn0 hc b_4
 |with_ hc hd hl r=>exact .exn1 hc b_4 (by rw [b_1 (c_2 hd hn)];exact hd) hl (r.mono (n_6 hn _))
theorem ce_2{H0:HB}{G0 G1:Hp}{D:Ends}{r:Fl}(q:Fin K EX H0 G0 G1 D (cq_2 i r)):Fin K n_5 H0 G0 G1 {nx:=fun σ H=>D.nx (σ.set i none) H,rt:=D.rt,bk:=fun σ H=>D.bk (σ.set i none) H,ct:=fun σ H=>D.ct (σ.set i none) H} r:=by
 cases r with
 |nx Δ=>exact fun σ G H O E sg=>q _ G H O (E.drop i) sg
 |bk Δ=>exact fun σ G H O E sg=>q _ G H O (E.drop i) sg
 |ct Δ=>exact fun σ G H O E sg=>q _ G H O (E.drop i) sg
 |rt w=>exact q
 |ex x Δ=>exact q.elim
 |no=>exact q
end
structure XGet(K:Frag)(C:Addr)(f:Str):Prop where
 ga:findIn K (.ref C) "__getattribute__" =some (some (.builtin "BaseException.__getattribute__"))
 gt:findIn K (.ref C) "__getattr__" =some none
 be:mroIn K C (.type "BaseException")=some true
 hd:hasDictIn K C=true
 no:findIn K (.ref C) f=some none
section
variable{prog:Program}{w:World}{A:Around}{E:Value→Shared→Prop}{s:Shared}{K:Frag}{x C dx:Addr}{f:Str}
theorem ce_3{expr:Bool}{Q:Value→Shared→Prop}{ox:Obj}{mA:Str→Option Value}{v:Value}(X:K.In s.heap)(hx:s.heap.get? x=some ox)(hc:ox.cls= .ref C)(hdx:ox.dict=some dx)(hnc:notCls ox=true)(hn:s.heap.Ns1 dx mA)(g:XGet K C f)
  (hv:mA f=some v) (hh:handedIn v=true) (h:Q v {s with toks:=s.toks + 1}):wpAny (model prog w) A (getAttr (.ref x) f expr) Q E s:=by
 obtain⟨od,ho,hl⟩:=at_5 hn;have I:InstAt s.heap x ox C (some od):=⟨hx,hc,hnc,by rw [hdx];exact ho⟩;obtain⟨hp,gg,d,t,os⟩:=s;have L0:=I.type (M:=model prog w);have L1:=looks_findIn (M:=model prog w) X g.ga;have L2:=looks_findIn (M:=model prog w) X g.gt;have LF:=looks_find (M:=model prog w) X I (findObj_own g.hd g.no rfl (by rw [hl,hv]));have sub:Looks (model prog w) hp (isInstance (.ref x) (.type "BaseException")) true:=L0.andThen (looks_mroIn X g.be);have SL:=PySem.F.attr_ValueError.ga;have hx0:(expr && onTheHeap (Value.builtin "BaseException.__getattribute__"))=false:=by cases expr <;> rfl
 unfold getAttr getAttrBy;refine wpAny_bind (wpAny_mkText (wpAny_holding (wpAny_bind (L0.at (wpAny_bind (L1.at ?_))))));show wpAny _ _ (getAttrByItsOwn _ _ _ _ _ _) _ _ _;unfold getAttrByItsOwn;refine wpAny_bind (L2.at (wpAny_bind (wpAny_attempt ?_)));refine wpAny_holding ?_;unfold callGetattribute;rw [hx0,if_neg Bool.false_ne_true];unfold boundAndCalled;rw [SL.bind];refine wpAny_bind (wpAny_pure (wpAny_call (codeAny_call_builtin SL.plain PySem.F.entry_bexc_ga (@check_slot (model prog w) _ _ ⟨hp,gg,d,t + 1,os⟩ "BaseException.__getattribute__" "BaseException" "__getattribute__" (.ref x) [.str f t] [] _ (by decide +kernel) (by decide +kernel) sub (PySem.F.args_bexc_ga _ _) ?_))));refine wpAny_bind (wpAny_pure (wpAny_bind (wpAny_pure (wpAny_bind (L0.at (wpAny_bind (LF.at ?_)))))));refine wpAny_pure ?_;show wpAny _ _ (handedOut v) _ _ _;rw [handedOut_of hh];exact wpAny_pure h
structure XInst(K:Frag)(C:Addr):Prop where
 ga:findIn K (.ref C) "__getattribute__" =some (some (.builtin "BaseException.__getattribute__"))
 gt:findIn K (.ref C) "__getattr__" =some none
 be:mroIn K C (.type "BaseException")=some true
 hd:hasDictIn K C=true
 cl:findIn K (.ref C) "__class__" =some (some (.builtin "object.__class__"))
 gs:specialIn K (.builtin "object.__class__") "__get__" =some (some (.builtin "getset_descriptor.__get__"))
 tk:takesIn K (.builtin "object.__class__")=some true
 ob:mroIn K C (.type "object")=some true
theorem bx_5{Q:Option Value→Shared→Prop}{ox:Obj}{od:Option Obj}(X:K.In s.heap)(I:InstAt s.heap x ox C od)(g:XInst K C)(h:Q (some (.ref C)) {s with toks:=s.toks + 1}):wpAny (model prog w) A (getAttr? (.ref x) "__class__") Q E s:=by
 have hf:findObj K C od "__class__" =some (.bind (.builtin "getset_descriptor.__get__") (.builtin "object.__class__")):=by
  obtain⟨cd,hc,_⟩:=any_some g.hd;unfold findObj;rw [hc,Option.bind_some,g.cl,Option.bind_some];simp [g.gs,g.tk]
 obtain⟨hp,gg,d,t,os⟩:=s;have L0:=I.type (M:=model prog w);have L1:=looks_findIn (M:=model prog w) X g.ga;have L2:=looks_findIn (M:=model prog w) X g.gt;have LF:=looks_find (M:=model prog w) X I hf;have sub:Looks (model prog w) hp (isInstance (.ref x) (.type "BaseException")) true:=L0.andThen (looks_mroIn X g.be);have SL:=PySem.F.attr_ValueError.ga;unfold getAttr? getAttrBy? getAttrBy;refine wpAny_bind (wpAny_mkText (wpAny_bind (wpAny_attempt (wpAny_holding (wpAny_bind (L0.at (wpAny_bind (L1.at ?_))))))));show wpAny _ _ (getAttrByItsOwn _ _ _ _ _ _) _ _ _;unfold getAttrByItsOwn;refine wpAny_bind (L2.at (wpAny_bind (wpAny_attempt ?_)));refine wpAny_holding ?_;unfold callGetattribute;rw [if_neg (by simp)];unfold boundAndCalled;rw [SL.bind];refine wpAny_bind (wpAny_pure (wpAny_call (codeAny_call_builtin SL.plain PySem.F.entry_bexc_ga (@check_slot (model prog w) _ _ ⟨hp,gg,d,t + 1,os⟩ "BaseException.__getattribute__" "BaseException" "__getattribute__" (.ref x) [.str "__class__" t] [] _ (by decide +kernel) (by decide +kernel) sub (PySem.F.args_bexc_ga _ _) ?_))));refine wpAny_bind (wpAny_pure (wpAny_bind (wpAny_pure (wpAny_bind (L0.at (wpAny_bind (LF.at ?_)))))));show wpAny _ _ (Builtin.ObjectAttr.bindTo (.builtin "getset_descriptor.__get__") (.builtin "object.__class__") (.ref x) (.ref C)) _ _ _;show wpAny _ _ (holding [.builtin "object.__class__"] (call (.builtin "getset_descriptor.__get__") [.builtin "object.__class__", .ref x, .ref C]) >>=ret) _ _ _;refine wpAny_bind (wpAny_holding (wpAny_call (class_get (s:=⟨hp,gg,d,t + 1,os⟩) (ox:=ox) (od:=od) X I g.ob ?_)));refine wpAny_pure ?_;show wpAny _ _ (handedOut (.ref C)) _ _ _;exact handed_on rfl (wpAny_pure h)
theorem bi_3{ox:Obj}{od:Option Obj}(g:XInst K C):KitX K (.ref x) (.ref C) (fun h=>InstAt h x ox C od) where
 ty:=fun _ _ _ I=>I.type
 it:=fun _ _ X _=>by
  obtain⟨cdD,hcD,_⟩:=any_some g.hd;unfold clsIn at hcD
  split at hcD
  ·rename_i c' d' cd' sl' ho;intro A' Q' E' s' k q;unfold isType loadHead;exact wpAny_bind (wpAny_loadPart (k _ _ (X _ _ ho)) (wpAny_pure q))
  ·cases hcD
 ne:=fun h tp dd its n sl X htp=>by
  obtain⟨cdD,hcD,_⟩:=any_some g.hd;refine Bool.eq_false_iff.mpr fun q=> ?_;have e:C=tp:=Value.ref.inj (beq_iff_eq.mp q);subst e;unfold clsIn at hcD
  split at hcD
  ·rename_i c' d' cd' sl' ho;have z:=(X _ _ ho).symm.trans htp;cases z
  ·cases hcD
 ca:=fun X I k=>bx_5 X I g k
end
theorem bi_4{G:Hp}{f:Str}{d:D}:∀{ns:List Str} {us:List V} {vs:List D},HasL K G us vs→(ns.zip vs).lookup f=some d→∃v,(ns.zip us).lookup f=some v∧Has K G v d
 | [],_,_,_,e=>by simp at e
 |n::ns,_,_, .nil,e=>by simp at e
 |n::ns,_,_, .cons h r,e=>by
  rw [List.zip_cons_cons,List.lookup_cons] at e⊢;cases z:(f ==n) with
  |true=>rw [z] at e;cases e;exact⟨_,rfl,h⟩
  |false=>rw [z] at e;exact bi_4 r e
def eAttr(cs:List Str)(f:Str)(fo:FE):FE:=fun δ=>(fo δ).bind fun w=>match w.d with
 | .exn c ns vs=>if cs.contains c=true then(match(ns.zip vs).lookup f with|some d=> .ok (.sh d)|none=> .no) else .no
 |_=> .no
def XGets(K:Frag)(cs:List Str)(f:Str):Prop:=∀c∈cs,∀C,ClsAt K c C→XGet K C f
section
variable{X:Cx}{EX:EXS}{o:Expr}{fo:FE}{f:Str}{cs:List Str}{pos:Pos}
theorem am_2(g:XGets X.K cs f)(he:ED X EX o fo)(hb:attributeBase o f X.env (eval o X.env)=eval o X.env:=by rfl):ED X EX (.Attribute o f pos) (eAttr cs f fo):=by
 intro zd s σ H Q I q;obtain⟨G,δ,g0,s0,q⟩:=q;refine bp_8 hb (thn (he zd s σ H (fun v H1=>∃G1 w,Step G H G1 H1∧Has X.K G1 v w.d∧fo δ= .ok w) I ⟨G,δ,g0,s0, ?_⟩) fun u s1 ⟨v,H1,I1,rv,G1,w,st,hv,ew⟩=> ?_)
 ·unfold eAttr at q;cases e:fo δ with
  |ok w=>exact WP.intro fun v G1 H1 st r=>⟨G1,w,st,r,rfl⟩
  |ex x=>rw [e] at q;exact q
  |no=>rw [e] at q;exact q
 ·have q2:Out X.K (EX σ) G H (match w.d with
   | .exn c ns vs=>if cs.contains c=true then(match(ns.zip vs).lookup f with|some d=> .ok (.sh d)|none=> .no) else .no
   |_=> .no) Q:=by
   unfold eAttr at q;rw [ew] at q;exact q
  clear q;revert hv q2;cases w.d with
  |exn c ns vs=>
   intro hv q2;have q2:Out X.K (EX σ) G H (if cs.contains c=true then(match(ns.zip vs).lookup f with|some d=> .ok (.sh d)|none=> .no) else .no) Q:=q2
   split at q2
   ·rename_i hc;cases el:(ns.zip vs).lookup f with
    |none=>rw [el] at q2;exact q2.elim
    |some d=>
     rw [el] at q2;cases hv with
     |exn0 _ _=>cases el
     |exn1 hc1 h1 hd1 hl1 r1=>
      rename_i a C dd ob us;obtain rfl:u=Value.ref a:=rv;obtain⟨y,ey,hy⟩:=bi_4 r1 el;obtain⟨_,⟨us',sl,eo,_⟩,_⟩:=I1.hok a _ (st.gh _ _ h1);obtain⟨mA,hn,hr⟩:=I1.hok dd _ (st.gh _ _ hd1);have hrf:=hr f;rw [ey] at hrf;cases em:mA f with
      |none=>rw [em] at hrf;exact hrf.elim
      |some z=>
       rw [em] at hrf;have rz:RelV y z:=hrf;exact ce_3 I1.kIn eo rfl rfl rfl hn (g c (List.contains_iff_mem.mp hc) C hc1) em (at_6 rz) ⟨y,H1,I1.tok _,rz,WP.use (WP.mono st q2) st.gh hy⟩
   ·exact q2.elim
  |_=>intro _ q2;exact False.elim q2
end
def eIsC(tb:List (Str×Bool))(fo:FE):FE:=fun δ=>(fo δ).bind fun w=>match w.d with
 | .exn c _ _=>(match tb.lookup c with|some b=> .ok (.sh (.bl b))|none=> .no)
 |_=> .no
def IsOne(K:Frag)(v:Value)(tb:List (Str×Bool)):Prop:=∀c b,tb.lookup c=some b→∀C,ClsAt K c C→XInst K C∧kitOne K (.ref C) v=some b
def IsAny(K:Frag)(Cs:List Addr)(tb:List (Str×Bool)):Prop:=∀c b,tb.lookup c=some b→∀C,ClsAt K c C→XInst K C∧kitAny K (.ref C) (Cs.map Value.ref)=some b
theorem av_3:∀{Cs:List Addr} {its:List Value},Vals (Cs.map V.ref) its→its=Cs.map Value.ref
 | [],_,r=>by cases r;rfl
 |C::Cs,_, .cons h1 h2=>by rw [av_3 h2];cases h1;rfl
section
variable{X:Cx}{EX:EXS}{zd:List (Addr×Obj)}{σ:Sg}{G H:Hp}{s:Shared}
theorem bs_1{a:Addr}{c:Str}{ns:List Str}{vs:List D}(I:Inv X zd σ H s)(g:Same G H)(h:Has X.K G (.ref a) (.exn c ns vs)):∃C ox od,ClsAt X.K c C∧InstAt s.heap a ox C od:=by
 cases h with
 |exn0 hc h1=>
  obtain⟨_,⟨us',sl,eo,_⟩,_⟩:=I.hok a _ (g _ _ h1);exact⟨_,_,none,hc,eo,rfl,rfl,True.intro⟩
 |exn1 hc h1 hd1 hl1 r1=>
  obtain⟨_,⟨us',sl,eo,_⟩,_⟩:=I.hok a _ (g _ _ h1);obtain⟨mA,⟨od,es,ep,e,_⟩,hr⟩:=I.hok _ _ (g _ _ hd1);exact⟨_,_,some od,hc,eo,rfl,rfl,e⟩
theorem bi_5{v2:V}{u2:Value}(r2:∀u,RelV v2 u→u=u2){tb:List (Str×Bool)}(k:IsOne X.K u2 tb):w_8 X (.builtin "isinstance") (fun xs H Q=>∃G x c ns vs b,xs= [x,v2]∧Same G H∧Has X.K G x (.exn c ns vs)∧tb.lookup c=some b∧Q (.bl b) H):=by
 intro zd s σ H xs us Q I rv h;obtain⟨G,x,c,ns,vs,b,rfl,g,r,e,q⟩:=h;obtain⟨u,u2',rfl,r1,rr⟩:=rv.two;obtain rfl:=r2 _ rr;have fin:∀tk,EP X zd σ Q (.bool b) {s with toks:=tk}:=fun tk=>⟨.bl b,H,I.tok _,rfl,q⟩;obtain⟨a,rfl⟩:∃a,x= .ref a:=by cases r <;> exact⟨_,rfl⟩
 obtain rfl:u=Value.ref a:=r1;obtain⟨C,ox,od,hc,io⟩:=bs_1 I g r;obtain⟨xi,ko⟩:=k c b e C hc;exact kia_one (bi_3 xi) I.kIn io ko (fun z=>nomatch z) fin
theorem bn_7{Cs:List Addr}{tb:List (Str×Bool)}(k:IsAny X.K Cs tb):w_8 X (.builtin "isinstance") (fun xs H Q=>∃G x p c ns vs b,xs= [x, .ref p]∧Same G H∧Has X.K G x (.exn c ns vs)∧SqT X.K H p (Cs.map V.ref)∧tb.lookup c=some b∧Q (.bl b) H):=by
 intro zd s σ H xs us Q I rv h;obtain⟨G,x,p,c,ns,vs,b,rfl,g,r,ht,e,q⟩:=h;obtain⟨u,u2',rfl,r1,rr⟩:=rv.two;obtain rfl:u2'=Value.ref p:=rr;have fin:∀tk,EP X zd σ Q (.bool b) {s with toks:=tk}:=fun tk=>⟨.bl b,H,I.tok _,rfl,q⟩;obtain⟨a,rfl⟩:∃a,x= .ref a:=by cases r <;> exact⟨_,rfl⟩
 obtain rfl:u=Value.ref a:=r1;obtain⟨C,ox,od,hc,io⟩:=bs_1 I g r;obtain⟨xi,ko⟩:=k c b e C hc;obtain⟨its,rv',⟨o,e1,c1,n,d1⟩,_⟩:=I.tuple ht;have ei:its=Cs.map Value.ref:=av_3 rv';subst ei;obtain⟨oc,odi,oda,osl⟩:=o;simp only at c1 d1;subst c1 d1;exact kia_tup (bi_3 xi) I.kIn io e1 ko (fun z=>nomatch z) fin
variable{a:Expr}{fo:FE}{tb:List (Str×Bool)}{pp pos:Pos}
theorem ao_7{δ:DE}{Q:VK}{P:VK}(g0:Same G H)(s0:HasS K G σ δ)(o:Out K (EX σ) G H (eIsC tb fo δ) Q)
  (i:∀v G' H' c ns vs b,Step G H G' H'→Has K G' v (.exn c ns vs)→tb.lookup c=some b→WP K G' H' (.sh (.bl b)) Q→P v H'):tD K EX fo σ H P:=by
 refine tD.seq g0 s0 o fun w v G1 H1 _ st1 r1 o1=> ?_;revert r1 o1;cases w.d with
 |exn c ns vs=>
  intro r1 o1;have o1:Out K (EX σ) G1 H1 (match tb.lookup c with|some b=> .ok (.sh (.bl b))|none=> .no) Q:=o1;cases e:tb.lookup c with
  |none=>rw [e] at o1;exact o1.elim
  |some b=>rw [e] at o1;exact i v G1 H1 c ns vs b st1 r1 e o1
 |_=>intro _ o1;exact False.elim o1
theorem ao_8{cn:Str}{C2:Addr}{p3:Pos}(k:IsOne X.K (.ref C2) tb)(ha:ED X EX a fo)(hm:X.mg "isinstance" =none)(hmC:X.mg cn=some (.ref C2))(hg:Gl X "isinstance" :=by rfl)(hgC:Gl X cn:=by rfl)(hdC:(cn ==("__debug__" :Str))=false:=by decide)
  (he:starEach [a, .Name cn p3] X.env=(false,eval a X.env)::starEach [.Name cn p3] X.env:=by rfl) (hpl:(backTo pos (starEach [.Name cn p3] X.env)).any (·.1)=false:=by rfl)
  (hs:starEach [.Name cn p3] X.env=(false,eval (.Name cn p3) X.env)::starEach [] X.env:=by rfl):ED X EX (.Call (.Name "isinstance" pp) [a, .Name cn p3] [] pos) (eIsC tb fo):=
 PE.imp (x_5 (bi_5 (v2:= .ref C2) (fun _ r=>r) k) hg hm boot_isinstance (i_7 ha (i_7 (al_6 (v:= .ref C2) hgC hmC rfl hdC) t_1 hs) he) (by decide) (by decide) he hpl) fun σ H Q ⟨G,δ,g0,s0,o⟩=>
  ao_7 g0 s0 o fun v G' H' c ns vs b st r e q=>⟨G',v,c,ns,vs,b,rfl,st.gh,r,e,WP.use q st.gh (.bl b)⟩
theorem cw_6{Tn:Str}{T:String}{p3:Pos}(k:IsOne X.K (.type T) tb)(ha:ED X EX a fo)(hm:X.mg "isinstance" =none)(hmT:X.mg Tn=none)(hvT:bootBuiltins Tn=some (.type T))(hg:Gl X "isinstance" :=by rfl)(hgT:Gl X Tn:=by rfl)
  (hn:Tn≠ "__name__" :=by decide) (hdT:(Tn ==("__debug__" :Str))=false:=by decide)
  (he:starEach [a, .Name Tn p3] X.env=(false,eval a X.env)::starEach [.Name Tn p3] X.env:=by rfl) (hpl:(backTo pos (starEach [.Name Tn p3] X.env)).any (·.1)=false:=by rfl)
  (hs:starEach [.Name Tn p3] X.env=(false,eval (.Name Tn p3) X.env)::starEach [] X.env:=by rfl):ED X EX (.Call (.Name "isinstance" pp) [a, .Name Tn p3] [] pos) (eIsC tb fo):=
 PE.imp (x_5 (bi_5 (v2:= .ty T) (fun _ r=>r) k) hg hm boot_isinstance (i_7 ha (i_7 (bp_2 (v:= .ty T) hgT hmT hvT rfl hn hdT) t_1 hs) he) (by decide) (by decide) he hpl) fun σ H Q ⟨G,δ,g0,s0,o⟩=>
  ao_7 g0 s0 o fun v G' H' c ns vs b st r e q=>⟨G',v,c,ns,vs,b,rfl,st.gh,r,e,WP.use q st.gh (.bl b)⟩
def bs_2(Cs:List Addr):TA:=fun _ H Q=>Q (Cs.map V.ref) H
theorem bs_3:PA X [] (bs_2 []):=t_1
theorem r_9{cn:Str}{C2:Addr}{p3:Pos}{es:List Expr}{Cs:List Addr}(hmC:X.mg cn=some (.ref C2))(hr:PA X es (bs_2 Cs))(hgC:Gl X cn:=by rfl)(hdC:(cn ==("__debug__" :Str))=false:=by decide)
  (hs:starEach (.Name cn p3::es) X.env=(false,eval (.Name cn p3) X.env)::starEach es X.env:=by rfl):PA X (.Name cn p3::es) (bs_2 (C2::Cs)):=i_7 (al_6 (v:= .ref C2) hgC hmC rfl hdC) hr hs
theorem bi_6{Cs:List Addr}{es:List Expr}{x1}{p3:Pos}(k:IsAny X.K Cs tb)(ha:ED X EX a fo)(hm:X.mg "isinstance" =none)(hes:PA X es (bs_2 Cs))(hz:Nat.ble Cs.length 64=true:=by rfl)(hg:Gl X "isinstance" :=by rfl)
  (he:starEach [a, .Tuple es x1 p3] X.env=(false,eval a X.env)::starEach [.Tuple es x1 p3] X.env:=by rfl) (hpl:(backTo pos (starEach [.Tuple es x1 p3] X.env)).any (·.1)=false:=by rfl)
  (hs:starEach [.Tuple es x1 p3] X.env=(false,eval (.Tuple es x1 p3) X.env)::starEach [] X.env:=by rfl):ED X EX (.Call (.Name "isinstance" pp) [a, .Tuple es x1 p3] [] pos) (eIsC tb fo):=
 PE.imp (x_5 (bn_7 k) hg hm boot_isinstance (i_7 ha (i_7 (cb_1 hes) t_1 hs) he) (by decide) (by decide) he hpl) fun σ H Q ⟨G,δ,g0,s0,o⟩=>
  ao_7 g0 s0 o fun v G' H' c ns vs b st r e q=>by
   show(Cs.map V.ref).length≤sizeLine∧∀p,H' p=none→_;refine⟨by have:=Nat.le_of_ble_eq_true hz;rw [List.length_map,sizeLine_eq];omega,fun p hp=> ?_⟩;have st2:Step G' H' (upd G' p (.tup (Cs.map V.ref))) (upd H' p (.tup (Cs.map V.ref))):=Step.new st.gh hp _;exact⟨_,v,p,c,ns,vs,b,rfl,st2.gh,r.mono st2.gg,SqT.of b_4,e,WP.use (WP.mono st2 q) st2.gh (.bl b)⟩
end
theorem al_3:bootBuiltins "ValueError" =some (.type "ValueError"):=by decide +kernel
theorem RoomC.units{c:Bool}{k:Nat}{A:Around}(r:RoomC c k A):A.units + 64 < cLine:=by have:=r.un;omega
section
variable{X:Cx}{c:Bool}{k:Nat}{zd:List (Addr×Obj)}{W:Value→Shared→Prop}{e:HX}
theorem ao_9(h:RoomC c k (Cx.A X)):RoomC c k (Cx.A (tryB X zd W)):=h
theorem u_6(h:RoomC c k (Cx.A X)):RoomC false k (Cx.A (hand X e)):=h.mark _
theorem ce_4(h:Cx.calm X=true):Cx.calm (Cx.nox X)=true:=h
theorem e_9{cm:Bool}{w:World}{N:List Str}{qual:Str}{scope:Scope}{f:Addr}{cd:Value}{A:Around}{outer:List Env}{s:Shared}{E:XK}:
  PassesOwn (model P w) (Cx.A (cxN cm P w K mg base N qual scope f cd A outer s H E)) (Cx.env (cxN cm P w K mg base N qual scope f cd A outer s H E)) (Cx.xe (cxN cm P w K mg base N qual scope f cd A outer s H E)):=
 fun e s' h=>wpAny_leaving_again (SameStack.refl _) h
theorem Catches.one{C2:Addr}{c:Str}{C:Addr}{b:Bool}(a:ClsAt K c C)(h:exmOne K (.ref C) (.ref C2)=some b){tb:List (Str×Bool)}(r:Catches K C2 tb):Catches K C2 ((c,b)::tb):=fun c' b' e C' a'=>by
 rw [List.lookup_cons] at e;cases z:(c' ==c) with
 |true=>
  rw [z] at e;cases e;have:c'=c:=eq_of_beq z;subst this;unfold ClsAt at a a';rw [a] at a';cases a';exact h
 |false=>rw [z] at e;exact r c' b' e C' a'
theorem Catches.nil{C2:Addr}:Catches K C2 []:=fun _ _ e=>by cases e
theorem IsOne.nil{v:Value}:IsOne K v []:=fun _ _ e=>by cases e
theorem IsOne.one{v:Value}{c:Str}{C:Addr}{b:Bool}(a:ClsAt K c C)(x:XInst K C)(h:kitOne K (.ref C) v=some b){tb:List (Str×Bool)}(r:IsOne K v tb):IsOne K v ((c,b)::tb):=fun c' b' e C' a'=>by
 rw [List.lookup_cons] at e;cases z:(c' ==c) with
 |true=>
  rw [z] at e;cases e;have:c'=c:=eq_of_beq z;subst this;unfold ClsAt at a a';rw [a] at a';cases a';exact⟨x,h⟩
 |false=>rw [z] at e;exact r c' b' e C' a'
theorem IsAny.nil{v:List Addr}:IsAny K v []:=fun _ _ e=>by cases e
theorem IsAny.one{v:List Addr}{c:Str}{C:Addr}{b:Bool}(a:ClsAt K c C)(x:XInst K C)(h:kitAny K (.ref C) (v.map Value.ref)=some b){tb:List (Str×Bool)}(r:IsAny K v tb):IsAny K v ((c,b)::tb):=fun c' b' e C' a'=>by
 rw [List.lookup_cons] at e;cases z:(c' ==c) with
 |true=>
  rw [z] at e;cases e;have:c'=c:=eq_of_beq z;subst this;unfold ClsAt at a a';rw [a] at a';cases a';exact⟨x,h⟩
 |false=>rw [z] at e;exact r c' b' e C' a'
theorem XGets.nil{f:Str}:XGets K [] f:=fun _ e=>by cases e
theorem XGets.one{f c:Str}{C:Addr}(a:ClsAt K c C)(x:XGet K C f){cs:List Str}(r:XGets K cs f):XGets K (c::cs) f:=fun c' e C' a'=>by
 rcases List.mem_cons.mp e with rfl|e
 ·unfold ClsAt at a a';rw [a] at a';cases a';exact x
 ·exact r c' e C' a'
end
structure Hd where
 i:Option Nat
 tb:List (Str×Bool)
 h:FS
def hdGo(d:Hd)(x:Xn)(Δ:SE):Fl:=match d.i with
 |some i=>cq_2 i (d.h (Δ.set i (.sh (.exn x.c x.ns x.vs))))
 |none=>(match d.h Δ with
  | .ex _ _=> .no
  |r=>r)
def tryH:List Hd→Xn→SE→Fl
 | [],_,_=> .no
 |d::r,x,Δ=>match d.tb.lookup x.c with
  |some true=>hdGo d x Δ
  |some false=>tryH r x Δ
  |none=> .no
def aj_9(g:FS)(hs:List Hd):FS:=fun Δ=>match g Δ with
 | .ex x Δ1=>tryH hs x Δ1
 |r=>r
inductive HOk3(X:Cx):List ExceptHandler→List Hd→Prop where
 |nil:HOk3 X [] []
 |as_ {c n:Str} {C2:Addr} {b₀:Stmt} {af:List Stmt} {np hp:Pos} {i:Nat} {tb:List (Str×Bool)} {h:FS} {hs:List ExceptHandler} {ds:List Hd} (hc:X.mg c=some (.ref C2)) (ct:Catches X.K C2 tb) (hh:∀e,BD (hand X e) n_5 (b₀::af) h) (r:HOk3 X hs ds)
   (hi:X.N[i]? =some n:=by rfl) (hk:X.env.scope.names.lookup n=some .local:=by rfl) (hg:Gl X c:=by rfl) (hdb:(c ==("__debug__" :Str))=false:=by decide):
   HOk3 X (.ExceptHandler (some (.Name c np)) (some n) (b₀::af) hp::hs) (⟨some i,tb,h⟩::ds)
 |bare {c:Str} {C2:Addr} {b₀:Stmt} {af:List Stmt} {np hp:Pos} {tb:List (Str×Bool)} {h:FS} {hs:List ExceptHandler} {ds:List Hd} (hc:X.mg c=some (.ref C2)) (ct:Catches X.K C2 tb) (hh:∀e,BD (hand X e) n_5 (b₀::af) h) (r:HOk3 X hs ds)
   (hg:Gl X c:=by rfl) (hdb:(c ==("__debug__" :Str))=false:=by decide):
   HOk3 X (.ExceptHandler (some (.Name c np)) none (b₀::af) hp::hs) (⟨none,tb,h⟩::ds)
def EXh(K:Frag)(EX:EXS)(D:Ends)(ds:List Hd):EXS:=fun σ=>⟨fun x G H=>∃H0 G0 Δ O,Ev K H0 G0 G H σ Δ O∧Fin K EX H0 G0 G D (tryH ds x Δ),
 fun _ _ _ _ _ s ⟨H0,G0,Δ,O,E,f⟩=>⟨H0,G0,Δ,O,E.grow s,Fin.mono s.gg f⟩⟩
theorem cn_1{EX:EXS}{H0:HB}{G0 G1:Hp}{D:Ends}{r:Fl}(q:Fin K EX H0 G0 G1 D (match r with| .ex _ _=> .no|r=>r)):Fin K n_5 H0 G0 G1 {nx:=D.nx,rt:=D.rt,bk:=D.bk,ct:=D.ct} r:=by
 cases r with
 |nx Δ=>exact q
 |bk Δ=>exact q
 |ct Δ=>exact q
 |rt w=>exact q
 |ex x Δ=>exact q.elim
 |no=>exact q
section
variable{X:Cx}{EX:EXS}{g:FS}{body:List Stmt}{pos:Pos}
theorem bx_6(hN:X.N.Nodup){zd:List (Addr×Obj)}{D:Ends}{a C T2:Addr}{dx:Option Addr}{σ1 σ0:Sg}{H1 H2:Hp}{s1 s2:Shared}{h2:Heap}{x:Xn}{H0':HB}{G2 G0':Hp}{Δ1:SE}{O1:OS}{e0:HX}{h9:Heap}(ha:e0.a=a)(hC:e0.C=C)(hx:e0.dx=dx)(zz:X.s₀.heap.objs.size≤e0.a)
  (J1:Inv X zd σ0 H1 s1) (J3:Inv X zd σ1 H2 {s2 with heap:=h9}) (J4:Inv X zd σ1 (upd H2 a e0.ho) {s2 with heap:=h2}) (st4:Step G2 H2 (upd G2 a e0.ho) (upd H2 a e0.ho))
  (n1:H2 a=none) (sg2:Same G2 H2) (ea:ExcAt X.K G2 (.ref C) dx x) (LT:Looks (model X.prog X.w) h2 (typeOf (.ref a)) (.ref C)) (hcC:ClsAt X.K x.c C)
  (E1:Ev X.K H0' G0' G2 H2 σ1 Δ1 O1)
  (flt:∀{A:Around} {E:Value→Shared→Prop} {Q:Unit→Shared→Prop},(∀h3,Inv X zd σ1 (upd H2 a e0.ho) {s2 with heap:=h3}→Q () {s2 with heap:=h3})→wpAny (model X.prog X.w) A (setFlight (.ref a) none) Q E {s2 with heap:=h2}):
  ∀{hs:List ExceptHandler} {ds:List Hd},HOk3 X hs ds→Fin X.K EX H0' G0' G2 D (tryH ds x Δ1)→wpAny (model X.prog X.w) X.A (handleBy (.ref a) X.env hs) (SP X zd D) X.xe {s2 with heap:=h2}:=by
 subst ha hC hx;intro hs ds ho
 induction ho with
 |nil=>intro q;exact False.elim q
 |as_ hc ct hh r hi hk hg hdb ih=>
  rename_i c n C2 b₀ af np hp i tb h hs ds;intro q;refine wpAny_handleBy_cons (codeAny_handlers_test ?_) (by intro z;cases z);refine q_7 (X:=hand X e0) (Inv.toH J4 zz b_4) hg hc ?_ hdb;unfold tryH at q;cases e2:tb.lookup x.c with
  |none=>simp only [e2] at q;exact q.elim
  |some b=>
   have em:=ct _ _ e2 _ hcC;refine Looks.here (s:={s2 with heap:=h2}) (exm_one J4.kIn LT em) ?_;cases b with
   |false=>simp only [e2] at q;exact ih q
   |true=>
    simp only [e2,hdGo] at q;show codeAny _ _ _ _ _;refine codeAny_handlers_suite_as (flt fun h3 J5=> ?_);refine an_0 (X:=hand X e0) (v:= .ref e0.a) (Inv.toH J5 zz b_4) hN hi (.inl hk) rfl (fun s6 I6=> ?_) (.inr hk);have E6:=(E1.grow st4).put (i:=i) (Has.exc (sg2.free n1) ea);refine wpAny_mono (hh e0 zd s6 _ _ _ I6 ⟨H0',G0',_,_,O1,E6,ce_2 (Fin.mono st4.gg q)⟩) (fun f s7 h7=> ?_) fun _ _ z=>False.elim z;show wpAny _ X.A (do bindName X.env n .none;unbindBehindTheSuite X.env n hp) (fun _ s₃=>SP X zd D f s₃) _ s7;cases f with
    |next=>
     obtain⟨σ7,H7,I7,q7⟩:=h7;exact aa_9 (Inv.ofH J3 n1 zz I7) hN hi hk fun s8 I8=>⟨_,H7,I8,q7⟩
    |brk=>
     obtain⟨σ7,H7,I7,q7⟩:=h7;exact aa_9 (Inv.ofH J3 n1 zz I7) hN hi hk fun s8 I8=>⟨_,H7,I8,q7⟩
    |cont=>
     obtain⟨σ7,H7,I7,q7⟩:=h7;exact aa_9 (Inv.ofH J3 n1 zz I7) hN hi hk fun s8 I8=>⟨_,H7,I8,q7⟩
    |ret u=>
     obtain⟨v,σ7,H7,I7,r7,q7⟩:=h7;exact aa_9 (Inv.ofH J3 n1 zz I7) hN hi hk fun s8 I8=>⟨v,_,H7,I8,r7,q7⟩
 |bare hc ct hh r hg hdb ih=>
  rename_i c C2 b₀ af np hp tb h hs ds;intro q;refine wpAny_handleBy_cons (codeAny_handlers_test ?_) (by intro z;cases z);refine q_7 (X:=hand X e0) (Inv.toH J4 zz b_4) hg hc ?_ hdb;unfold tryH at q;cases e2:tb.lookup x.c with
  |none=>simp only [e2] at q;exact q.elim
  |some b=>
   have em:=ct _ _ e2 _ hcC;refine Looks.here (s:={s2 with heap:=h2}) (exm_one J4.kIn LT em) ?_;cases b with
   |false=>simp only [e2] at q;exact ih q
   |true=>
    simp only [e2,hdGo] at q;show codeAny _ _ _ _ _;refine codeAny_handlers_suite (flt fun h3 J5=> ?_);have E6:=E1.grow st4;refine wpAny_mono (hh e0 zd {s2 with heap:=h3} _ _ _ (Inv.toH J5 zz b_4) ⟨H0',G0',_,_,O1,E6,cn_1 (Fin.mono st4.gg q)⟩) (fun f s7 h7=> ?_) fun _ _ z=>False.elim z;cases f with
    |next=>
     obtain⟨σ7,H7,I7,q7⟩:=h7;exact⟨_,H7,Inv.ofH J3 n1 zz I7,q7⟩
    |brk=>
     obtain⟨σ7,H7,I7,q7⟩:=h7;exact⟨_,H7,Inv.ofH J3 n1 zz I7,q7⟩
    |cont=>
     obtain⟨σ7,H7,I7,q7⟩:=h7;exact⟨_,H7,Inv.ofH J3 n1 zz I7,q7⟩
    |ret u=>
     obtain⟨v,σ7,H7,I7,r7,q7⟩:=h7;exact⟨v,_,H7,Inv.ofH J3 n1 zz I7,r7,q7⟩
theorem bs_4{hd0:ExceptHandler}{hs0:List ExceptHandler}{ds:List Hd}(hN:X.N.Nodup)(hfr:X.env.frame=some X.env.locals)(hst:X.stack=X.env::X.outer)(hb:∀zd W EXB,Lk (tryB X zd W) EXB→BD (tryB X zd W) EXB body g)(ho:HOk3 X (hd0::hs0) ds):
  SD X EX (.Try body (hd0::hs0) [] [] pos) (aj_9 g ds):=by
 intro zd s σ H D I q;obtain⟨H0,G0,G,Δ,O,E,q⟩:=q;refine wpAny_Try_except ?_;have lk:Lk (tryB X zd fun e s₁=>wpAny (model X.prog X.w) X.A (noteFrame e X.env) (fun _ s₂=>wpAny (model X.prog X.w) X.A (setFlight e none) (fun _ s₃=>wpAny (model X.prog X.w) X.A (handleBy e X.env (hd0::hs0)) (SP X zd D) X.xe s₃) X.xe s₂) X.xe s₁) (EXh X.K EX D ds):=by
  intro ai σ1 H1 s1 e s2 I1 cx;obtain⟨a,C,dx,T,H2,rfl,I2,tr,n1,n2,z1,z2,x,G2,sg2,ea,H0',G0',Δ1,O1,E1,f1⟩:=Inv.raised I1 cx;show wpAny _ X.A (noteFrame (.ref a) X.env) _ _ s2;have J1:=Inv.ofB I1;have J2:=Inv.ofB I2;refine au_4 (outer:=X.outer) (by rw [←hst];exact J2.ok.frames) (by rw [←hst];exact J2.stack) hfr tr fun h1 T2 z3 k1 t1=> ?_;refine s_5 t1 fun h2 k2 t2=> ?_;have zT2:H2 T2=none:=J2.hok.fresh z3;have J3:Inv X zd σ1 H2 {s2 with heap:=h2}:=by
   refine Inv.settle (ch:= [a,T] ++ [T2]) J1 J2 (fun b hb=> ?_) ?_
   ·have:b=a∨b=T∨b=T2:=by simpa using hb
    rcases this with rfl|rfl|rfl
    ·exact⟨z1,n1⟩
    ·exact⟨z2,n2⟩
    ·exact⟨Nat.le_trans z1 (Nat.le_trans (Nat.le_of_lt (Heap.lt_size tr.ob.choose_spec.choose_spec.1)) z3),zT2⟩
   ·rw [hst];exact k1.trans (KeepX.of_same k2)
  obtain⟨⟨oa,ua,ga,gc,gd,gf,g1,g2⟩,ne,tbk⟩:=id t2;have goa:h2.get? a=some ⟨.ref C,dx, .fields ua,oa.slots⟩:=by
   obtain⟨c1,d1,e1,s1⟩:=oa;simp only at gc gd gf;subst gc gd gf;exact ga
  let e0:HX:=⟨a,C,dx,ua,oa.slots,g2⟩
  have zz:X.s₀.heap.objs.size≤e0.a:=Nat.le_trans J1.sz z1;have J4:Inv X zd σ1 (upd H2 a e0.ho) {s2 with heap:=h2}:=Inv.speak J1 J3 z1 goa g2 n1;have st4:Step G2 H2 (upd G2 a e0.ho) (upd H2 a e0.ho):=Step.new sg2 n1 _;have LT:Looks (model X.prog X.w) h2 (typeOf (.ref a)) (.ref C):=gc▸(Looks.ld ga).andThen .now;obtain⟨hcC⟩:Nonempty (ClsAt X.K x.c C):=by cases ea with|bare hc=>exact⟨hc⟩|with_ hc _ _ _=>exact⟨hc⟩
  refine bx_6 (e0:=e0) (T2:=T2) hN rfl rfl rfl zz J1 J3 J4 st4 n1 sg2 ea LT hcC E1 (fun{A E Q} hq=> ?_) ho f1;refine s_5 t2 fun h3 k3 t3=>hq h3 ?_;refine Inv.settle (ch:= [T2]) (s':={s2 with heap:=h2}) J1 J4 (fun b hb=> ?_) (KeepX.of_same k3);have:b=T2:=by simpa using hb
  subst this;exact⟨Nat.le_trans z1 (Nat.le_trans (Nat.le_of_lt (Heap.lt_size tr.ob.choose_spec.choose_spec.1)) z3),by rw [b_1 ne];exact zT2⟩
 refine wpAny_mono (hb zd _ _ lk [] s σ H D (Inv.toB I) ⟨H0,G0,G,Δ,O,E, ?_⟩) (fun f s1 hs=> ?_) fun _ _ z=>z
 ·unfold aj_9 at q;cases e1:g Δ with
  |ex x Δ1=>
   rw [e1] at q;exact fun σ1 G1 H1 O1 E1 sg=>⟨H0,G0,Δ1,O1,E1,Fin.mono sg q⟩
  |nx Δ1=>rw [e1] at q;exact q
  |bk Δ1=>rw [e1] at q;exact q
  |ct Δ1=>rw [e1] at q;exact q
  |rt w=>rw [e1] at q;exact q
  |no=>rw [e1] at q;exact q
 ·have hs':=SP.ofB hs;cases f with
  |next=>exact wpAny_execs_nil hs'
  |brk=>exact hs'
  |cont=>exact hs'
  |ret u=>exact hs'
end
section
variable{prog:Program}{w:World}{A:Around}{E:Value→Shared→Prop}{h:Heap}{g:Array GenState}{d:Drawn}{t:Nat}{os:OsState}
variable{nm q:Str}{C N:Addr}{bs bm bmB:List Value}{ay:Bool}{sn:List Str}{sub:List Value}{ab:Bool}{col:Option Bool}{dd:Option Addr}{k0 k1 k2 k3 k5:Option Value}{B newId ag:String}
theorem bn_9(FB:ExcBaseFacts B newId ag bmB)(T:OwnTail h bmB bm){mN:Str→Option Value}{Q:PySem.Fin→Shared→Prop}
  (hC:h.get? C=some (excClassObj nm q C N bs bm ay sn sub ab col dd k0 k1 k2 k3 k5 newId)) (hn:h.Ns N mN) (hi:mN "__init__" =none)
  (z:∀h' e,Heap.MadeExcOf h h' e (.ref C) []→h.objs.size≤e→Q (.done (.ret (.ref e))) ⟨h',g,d,t,os⟩):
  wpAny (model prog w) A (Builtin.«type.__call__» ⟨[.ref C], []⟩) Q E ⟨h,g,d,t,os⟩:=by
 wp_walk using wpAny_loadPart_at hC,wpAny_madeBy_exc hC
 refine codeAny_call_builtin_code (Code.quiet_builtin _ FB.quiet) (wpAny_check_new_subT FB T hC ?_);refine codeAny_exc_new_subT FB T hC ?_ (by show 0≤sizeLine;exact Nat.zero_le _);show wpAny _ _ _ _ _ _;generalize e1:({cls:= .type "tuple",data:= .seq ([]:List Value).toArray}:Obj)=o1;generalize e2:({cls:= .ref C,data:= .fields #[.ref h.objs.size, .none, .none, .none, .bool false, .none]}:Obj)=o2;have up:∀b o,h.get? b=some o→((h.push o1).push o2).get? b=some o:=fun b o e=>Heap.get?_push_of_some _ (Heap.get?_push_of_some _ e);have ge:((h.push o1).push o2).get? (h.objs.size + 1)=some o2:=by
  have:=Heap.get?_push_size (h.push o1) (o:=o2) (by rw [←e2];rfl)
  rwa [Heap.size_push] at this
 have hC1:=up _ _ hC;have hn1:((h.push o1).push o2).Ns N mN:=hn.keeps up;have T1:=T.keeps up;have cl:o2.cls= .ref C:=by rw [←e2]
 have hcC:List.contains (Value.ref C::bm) (.ref C)=true:=List.contains_iff_mem.mpr (.head _);unfold isInstance
 repeat (first|(with_reducible refine wpAny_loadPart_at ge ?_;rw [cl])|(with_reducible refine wpAny_isSubtype_exc hC1 ?_;rw [hcC])|wp_step)
 show wpAny _ _ (typeLookup (.ref C) _) _ _ _;refine wpAny_typeLookup_tail hC1 hn1 T1 FB.mroIs FB.init.lookup ?_;rw [hi];refine wpAny_holding (wpAny_bind (wpAny_of_eq (FB.init.bind _) ?_));refine wpAny_bind (wpAny_call (codeAny_call_builtin FB.init.plain FB.initEntry (wpAny_check_init_subT FB T1 hC1 ge cl ?_)));subst e1 e2
 wp_walk
 refine z _ (h.objs.size + 1) ⟨fun b o hb=> ?_,Heap.get?_none_of_le (Nat.le_succ _),h.objs.size + 2, ?_,Heap.get?_none_of_le (by omega), ?_⟩ (Nat.le_succ _)
 ·rw [Heap.get?_update_other _ _ (Ne.symm (Nat.ne_of_lt (Nat.lt_succ_of_lt (Heap.lt_size hb))))];exact Heap.get?_push_of_some _ (up b o hb)
 ·rw [Heap.get?_update_self _ (Heap.get?_push_of_some _ ge) rfl,Heap.size_push,Heap.size_push];rfl
 ·rw [Heap.get?_update_other _ _ (Nat.ne_of_lt (Nat.lt_succ_self (h.objs.size + 1)))];exact Heap.get?_push_at (by rw [Heap.size_push,Heap.size_push]) rfl
theorem bx_7(FB:ExcBaseFacts B newId ag bmB)(T:OwnTail h bmB bm){mN:Str→Option Value}{Q:Value→Shared→Prop}
  (hC:h.get? C=some (excClassObj nm q C N bs bm ay sn sub ab col dd k0 k1 k2 k3 k5 newId)) (hn:h.Ns N mN) (hi:mN "__init__" =none)
  (z:∀h' e,Heap.MadeExcOf h h' e (.ref C) []→h.objs.size≤e→Q (.ref e) ⟨h',g,d,t,os⟩):
  wpAny (model prog w) A (call (.ref C) []) Q E ⟨h,g,d,t,os⟩:=by
 have f1:=tc_lookup;have f2:=tc_bind (.ref C);have isT:Shared.TypeIs ⟨h,g,d,t,os⟩ (.ref C) "type" :=⟨_,hC,rfl⟩;refine wpAny_call (codeAny_of_tree (?_:wpAny _ _ (callAny (.ref C) _) _ _ _))
 wp_walk using wpAny_loadPart_at hC
 refine⟨rfl, ?_⟩;exact codeAny_call_builtin_at (Code.quiet_builtin _ (by decide +kernel)) entry_typeCall (wpAny_check_type_call_sub hC (bn_9 FB T hC hn hi z))
end
def XMk0(K:Frag)(C:Addr):Prop:=∃(nm q:Str) (N:Addr) (bs bm:List Value) (sn:List Str) (sub:List Value) (ab:Bool) (col:Option Bool) (dd:Option Addr) (k0 k1 k2 k3 k5:Option Value) (mN:Str→Option Value),
 K.lookup C=some (excClassObj nm q C N bs bm true sn sub ab col dd k0 k1 k2 k3 k5 "ValueError.__new__")∧(∀h:Heap,K.In h→OwnTail h bmVE bm)∧(∀h:Heap,K.In h→h.Ns N mN)∧mN "__init__" =none
theorem cn_2{C N L:Addr}{nm q:Str}{bs:List Value}{sn:List Str}{sub:List Value}{ab:Bool}{col:Option Bool}{dd:Option Addr}{k0 k1 k2 k3 k5:Option Value}{oc c0 oL:Value}{od ddL odL:Option Addr}{es esL:Array DictEntry}{ep epL:Nat}{sl sl0 slL:Array (Option Value)}{cd:ClassData}
  (lc:K.lookup C=some (excClassObj nm q C N bs (.ref L::bmVE) true sn sub ab col dd k0 k1 k2 k3 k5 "ValueError.__new__")) (ln:K.lookup N=some ⟨oc,od, .dict es ep,sl⟩) (kn:h_5 es=true) (hi:nsFind es "__init__" =none)
  (ll:K.lookup L=some ⟨c0,ddL, .cls cd,sl0⟩) (lm:K.lookup cd.ns=some ⟨oL,odL, .dict esL epL,slL⟩) (km:h_5 esL=true) (hL:nsFind esL "__init__" =none):XMk0 K C:=
 ⟨nm,q,N,bs,_,sn,sub,ab,col,dd,k0,k1,k2,k3,k5,nsFind es,lc,fun h X=> .own (X _ _ ll) (bs_0 lm km X) hL .base,fun h X=>bs_0 ln kn X,hi⟩
structure XC0(K:Frag)(mg:Str→Option Value)(c:Str)(C:Addr):Prop where
 at_:ClsAt K c C
 glob:mg c=some (.ref C)
 kp:keepIn K (.ref C)=true
 made:XMk0 K C
def am_3(c:Str):FS:=fun Δ=> .ex ⟨c, [], []⟩ Δ
section
variable{X:Cx}{C:Addr}{c:Str}
theorem bx_8{EX:EXS}{np zf pos:Pos}(M:XC0 X.K X.mg c C)(hr:RoomC true 2 X.A)(l1:Lk1 X EX)(hg:Gl X c:=by rfl)(hdb:(c ==("__debug__" :Str))=false:=by decide):
  SD X EX (.Raise (some (.Call (.Name c np) [] [] zf)) none pos) (am_3 c):=by
 intro zd s σ H D I q;obtain⟨H0,G0,G,Δ,O,E,q⟩:=q;obtain⟨nm,qn,N,bs,bm,sn,sub,ab,col,dd,k0,k1,k2,k3,k5,mN,lc,tl,hn,hi⟩:=M.made;have hB:bm.contains (.type "BaseException")=true:=ai_0 (tl s.heap I.kIn);rw [arm_exec_Raise];have mk:wpAny (model X.prog X.w) X.A (eval (.Call (.Name c np) [] [] zf) X.env) (fun v s1=>∃a t dx,v= .ref a∧s1.heap.get? C=some (excClassObj nm qn C N bs bm true sn sub ab col dd k0 k1 k2 k3 k5 "ValueError.__new__")∧
   s1.heap.get? a=some {cls:= .ref C,dict:=dx,data:= .fields #[.ref t, .none, .none, .none, .bool false, .none]}∧X.xe (.ref a) s1) X.xe s:=by
  refine wpAny_Call_Name_kw (q_7 I hg M.glob ?_ hdb);refine callWith_K0 I.kIn M.kp ?_;have KX:=I.kIn;obtain⟨hh,gg,dr,tk,os⟩:=s;refine bx_7 PySem.F.excBase_ValueError (tl hh KX) (KX _ _ lc) (hn hh KX) hi fun h' a me za=> ?_;obtain⟨kk,new,t,et,_,_⟩:=me;have I2:Inv X zd σ H ⟨h',gg,dr,tk,os⟩:=I.kept (h':=h') (t':=tk) kk;refine⟨a,t,none,rfl,I2.kIn _ _ lc,et, ?_⟩;exact l1 zd σ H H ⟨hh,gg,dr,tk,os⟩ ⟨h',gg,dr,tk,os⟩ a C none _ _ I I2 et rfl rfl rfl rfl rfl (I.hok.fresh za) za ⟨⟨c, [], []⟩,G,E.st.gh, .bare M.at_,q σ G H O E (Same.refl _)⟩
 refine wpAny_bind (wpAny_standAt (au_5 hB (hr.hd rfl) (wpAny_bind (wpAny_mono mk (fun v s3 h3=>wpAny_bind (wpAny_standAt (wpAny_pure h3))) fun _ _ x=>x))))
end
end L3
namespace L3
open PySem L2
variable{K:Frag}{fd:FuncData}{mg:Str→Option Value}{P:Program}{vs:List V}{us:List Value}{base:Heap}{H:Hp}{X:Cx}{pos:Pos}{v:V}
abbrev Ai{a b:Prop}(x:a)(y:b):a∧b:=⟨x,y⟩
def evs:=Ai @bodyD.eq_1 (Ai @start3.eq_1 (Ai @sSeq.eq_1 (Ai @sSet.eq_1 (Ai @gsome.eq_1 (Ai @give1.eq_1 (Ai @List.foldl_cons.{0,0} (Ai @List.foldl_nil.{0,0} (Ai @sRet.eq_1 (Ai @sRetV.eq_1 (Ai @sIf.eq_1 (Ai @sExpr.eq_1 (Ai @sNil.eq_1 (Ai @vsh.eq_1 (Ai @vall.eq_1 (Ai @gall.eq_1 (Ai @ce_0 (Ai @cw_1 (Ai @cw_2 (Ai @cw_3 (Ai @cw_4 (Ai @cw_5 (Ai @cm_7 (Ai @cm_8 (Ai @cm_9 (Ai @eOp.eq_1 (Ai @eVar.eq_1 (Ai @eC.eq_1 (Ai @eTest.eq_1 (Ai @eTruth.eq_1 (Ai @truthD.eq_1 (Ai @truthD.eq_2 (Ai @truthD.eq_3 (Ai @truthD.eq_4 (Ai @truthD.eq_5 (Ai @truthD.eq_6 (Ai @truthD.eq_7 (Ai @boolD.eq_1 (Ai @boolD.eq_2 (Ai @eCall.eq_1 (Ai @eFn.eq_1 (Ai @R.calm_ok (Ai @R.calm_no (Ai @R.calm_ex (Ai @sPut.eq_1 (Ai @sPut.eq_2 (Ai @sPut.eq_3 (Ai @sPut.eq_4 (Ai @sPut.eq_5 (Ai @eAttr.eq_1 (Ai @eIsC.eq_1 (Ai @isND.eq_1 (Ai @isND.eq_2 (Ai @nonB.eq_1 (Ai @nonB.eq_2 (Ai @aNil.eq_1 (Ai @aCons.eq_1 (Ai @eTup.eq_1 (Ai @eLst.eq_1 (Ai @eIf.eq_1 (Ai @eAnd.eq_1 (Ai @eOr.eq_1 (Ai @eNot.eq_1 (Ai @tAndF.eq_1 (Ai @tOrF.eq_1 (Ai @tNotF.eq_1 (Ai @eIs.eq_1 (Ai @bg_9 (Ai @bn_3 (Ai @bh_0 (Ai @bh_1 (Ai @bh_2 (Ai @bh_3 (Ai @az_4 (Ai @bh_4 (Ai @az_5 (Ai @az_6 (Ai @az_7 (Ai @az_8 (Ai @bh_5 (Ai @bn_4 (Ai @bh_6 (Ai @bh_7 (Ai @bh_8 (Ai @bh_9 (Ai @az_9 (Ai @bi_0 (Ai @ba_0 (Ai @ba_1 (Ai @ba_2 (Ai @ba_3 (Ai @ar_7 (Ai @ba_4 (Ai @ar_8 (Ai @ar_9 (Ai @as_0 (Ai @as_1 (Ai @eSlice.eq_1 (Ai @oNone.eq_1 (Ai @oSome.eq_1 (Ai @intPart.eq_1 (Ai @intPart.eq_2 (Ai @eMeth.eq_1 (Ai @eMeth0.eq_1 (Ai @tyD.eq_1 (Ai @tyD.eq_2 (Ai @tyD.eq_3 (Ai @tyD.eq_4 (Ai @iArgs.eq_1 (Ai @iOf.eq_1 (Ai @itemsD.eq_1 (Ai @itemsD.eq_2 (Ai @itemsD.eq_3 (Ai @itemsD.eq_4 (Ai @R.bind_ok (Ai @R.bind_no (Ai @R.bind_ex (Ai @W.d_sh (Ai @W.d_ow (Ai @List.map_cons.{0,0} (Ai @List.map_nil.{0,0} (Ai @List.cons_append.{0} (Ai @List.nil_append.{0} (Ai @List.append_nil.{0} (Ai @List.replicate_succ.{0} (Ai @List.replicate_zero.{0} (Ai @List.length_cons.{0} (Ai @List.length_nil.{0} (Ai @List.set_cons_zero.{0} (Ai @List.set_cons_succ.{0} (Ai @List.getElem?_cons_zero.{0} (Ai @List.getElem?_cons_succ.{0} (Ai @if_true.{1} (Ai @if_false.{1} (Ai @flatD.eq_1 (Ai @flatD.eq_2 (Ai @flatD.eq_3 (Ai @flatD.eq_4 (Ai @flatD.eq_5 (Ai @Bool.false_eq_true (Ai @Bool.not_true (Ai @Bool.not_false (Ai @Bool.true_and (Ai @Bool.false_and (Ai @Nat.zero_add (Ai @decide_true (Ai @decide_false (Ai @gC.eq_1 (@gV.eq_1))))))))))))))))))))))))))))))))))))))))))))))))))))))))))))))))))))))))))))))))))))))))))))))))))))))))))))))))))))))))))))))))))))))))))))))))))))
end L3
namespace L3
open PySem PySem.Spec PyProof.Rows L2
variable{K:Frag}{fd:FuncData}{mg:Str→Option Value}{P:Program}{vs:List V}{us:List Value}{base:Heap}{H:Hp}{X:Cx}{pos:Pos}{v:V}
abbrev HBd(c:Bool)(P:Program)(w:World)(K:Frag)(mg:Str→Option Value)(base:Heap)(N:List Str)(qual:Str)(st:Stmt)(f:Addr)(k:Nat)(g:FS):Prop:=∀{zn:Value} {A:Around} {outer:List Env} {s:Shared} {H:Hp} {E:XK},(cxN c P w K mg base N qual (b_0 st) f zn A outer s H E).calm=c→RoomC c k (Cx.A (cxN c P w K mg base N qual (b_0 st) f zn A outer s H E))→(Cx.A (cxN c P w K mg base N qual (b_0 st) f zn A outer s H E)).units + 64 < cLine→N.Nodup→Lk (cxN c P w K mg base N qual (b_0 st) f zn A outer s H E) (fun _=>EXof K E)→
   BD (cxN c P w K mg base N qual (b_0 st) f zn A outer s H E) (fun _=>EXof K E) (e_2 st) g
theorem f_4{c:Bool}{w:World}{x qual:Str}{st:Stmt}{f:Addr}{N ps:List Str}{k:Nat}{g:FS}(F:Fun K x qual st f fd)
  (zj:HBd c P w K mg base N qual st f k g) (S:FnScope N ps (b_0 st):=by exact⟨rfl,rfl,rfl,by decide +kernel,rfl,by decide +kernel,by decide +kernel⟩):FnX P w K mg base c (k + 1) f fd ps (spX K ps.length (bodyD N.length g)):=
 fn_D F S fun zn A outer s H E hr=>zj rfl hr (RoomC.units hr) S.nd bm_3
theorem cq_3{c:Bool}{w:World}{x qual cn:Str}{st:Stmt}{f C:Addr}{N ps:List Str}{k n:Nat}{g:FS}(F:Fun K x qual st f fd)(hC:ClsAt K cn C)(hn:ps.length=n + 1)(hle:ps.length≤N.length)
  (zj:HBd c P w K mg base N qual st f k g) (S:FnScope N ps (b_0 st):=by exact⟨rfl,rfl,rfl,by decide +kernel,rfl,by decide +kernel,by decide +kernel⟩):FnX P w K mg base c (k + 1) f fd ps (spI K C n (ao_5 N.length cn g)):=
 fn_I F S hC hn hle fun zn A outer s H E hr=>zj rfl hr (RoomC.units hr) S.nd bm_3
def FnAt(K:Frag)(x qual:Str)(st:Stmt)(f:Addr):Prop:=∃fd,Fun K x qual st f fd
theorem FnAt.mk{x qual:Str}{st:Stmt}{f:Addr}{oc kV dc pm cd ct:Value}{od an:Option Addr}{sl:Array (Option Value)}
  (l:K.lookup f=some ⟨oc,od, .func (fnOf x qual (h_4 st) (e_2 st) (b_0 st) .none kV dc pm an cd ct),sl⟩) (c:codeIn K cd qual=true) (k:keepIn K (.ref f)=true):FnAt K x qual st f:=⟨_,an_4 l c k⟩
def FnTop(K:Frag)(x:Str)(st:Stmt):Prop:=∃f,nsIn K mainGlobals x=some (some (.ref f))∧FnAt K x x st f
theorem FnTop.mk{x:Str}{st:Stmt}{f:Addr}{oc kV dc pm cd ct:Value}{od an:Option Addr}{sl:Array (Option Value)}(a:nsIn K mainGlobals x=some (some (.ref f)))
  (l:K.lookup f=some ⟨oc,od, .func (fnOf x x (h_4 st) (e_2 st) (b_0 st) .none kV dc pm an cd ct),sl⟩) (c:codeIn K cd x=true) (k:keepIn K (.ref f)=true):FnTop K x st:=⟨f,a,FnAt.mk l c k⟩
def FnMet(K:Frag)(C:Addr)(x qual:Str)(st:Stmt):Prop:=∃f,findIn K (.ref C) x=some (some (.ref f))∧FnAt K x qual st f∧keepIn K (.ref f)=true∧isFn K (.ref f)=true
theorem FnMet.mk{C:Addr}{x qual:Str}{st:Stmt}{f:Addr}{oc kV dc pm cd ct:Value}{od an:Option Addr}{sl:Array (Option Value)}(a:findIn K (.ref C) x=some (some (.ref f)))
  (l:K.lookup f=some ⟨oc,od, .func (fnOf x qual (h_4 st) (e_2 st) (b_0 st) .none kV dc pm an cd ct),sl⟩) (c:codeIn K cd qual=true) (k:keepIn K (.ref f)=true) (i:isFn K (.ref f)=true):FnMet K C x qual st:=⟨f,a,FnAt.mk l c k,k,i⟩
section
variable{X:Cx}{EX:EXS}{pos:Pos}
end
section
variable{X:Cx}{EX:EXS}{pos:Pos}
end
section
variable{X:Cx}{EX:EXS}
end
end L3
namespace PySem
open PyProof.Rows (IsTup)
namespace F
end F
def Heap.IsRvd(h:Heap)(a t:Addr)(i:Int):Prop:=∃o,h.get? a=some o∧o.cls= .type "reversed" ∧o.data= .fields #[.ref t,rawInt i]
open AutoSeq1 (wpAny_loadPart')
section
variable{prog:Program}{w:World}{A:Around}{E:Value→Shared→Prop}{s:Shared}
theorem Heap.IsRvd.ty{a l:Addr}{i:Int}(x:s.heap.IsRvd a l i):s.TypeIs (.ref a) "reversed" :=x.elim fun o z=>⟨o,z.1,z.2.1⟩
end
end PySem
namespace L3
open PySem PySem.Spec PyProof.Rows L2
variable{K:Frag}{fd:FuncData}{mg:Str→Option Value}{P:Program}{vs:List V}{us:List Value}{base:Heap}{H:Hp}{X:Cx}{pos:Pos}{v:V}
section
variable{X:Cx}{EX:EXS}{a:Expr}{f:FE}{p p' pos pos':Pos}
end
theorem gcM{EX:EXS}{i:Nat}{x:Str}(hN:decide X.N.Nodup=true:=by kernel_rfl)(hi:X.N[i]? =some x:=by rfl)(hx:Loc X.env.scope x:=by first|exact Or.inl rfl|exact Or.inr rfl)
  (hf:X.fn x=true∨X.env.scope.names.lookup x=some .local:=by first|exact .inl rfl|exact .inr rfl|assumption):GC X EX (.Name x pos) (gC i):=cl_4 (of_decide_eq_true hN) hi hx hf
structure BaseI(K:Frag)(B f:Addr):Prop where
 sp:specialIn K (.ref B) "__getattribute__" =some (some (.builtin "type.__getattribute__"))
 rd:readsIn K B (.type "type")=true
 at_:findCls K (.ref B) (.type "type") "__init__" =some (.val (.ref f))
 kp:keepIn K (.ref f)=true
def MakB(P:Program)(w:World)(K:Frag)(mg:Str→Option Value)(base:Heap)(cc:Bool)(b c:Str)(k n:Nat)(F:List D→R (List Str×List D)):Prop:=
 ∃B C f fd ps,ClsAt K c C∧mg b=some (.ref B)∧BaseI K B f∧FnX P w K mg base cc k f fd ps (spI K C n F)∧Binds K fd ps []
def w_0(i:Nat)(c:Str)(js:List Nat)(F:List D→R (List Str×List D))(fe:FE):FS:=fun Δ=>match(gsome js Δ)[i]? with
 |some (.lt (.obj c' [] []))=>if c'=c then(match fe (vsh (gsome js Δ)) with
  | .ok w=>(match F [w.d] with
   | .ok p=> .nx ((gsome js Δ).set i (.lt (.obj c p.1 (p.2.map .sh))))
   |_=> .no)
  | .ex x=> .ex x (gsome js Δ)
  | .no=> .no) else .no
 |_=> .no
section
variable{X:Cx}{EX:EXS}{e:Expr}{es:List Expr}{x:Str}{pp zh pos:Pos}{cc:Bool}{k k' n:Nat}{ps:List Str}
theorem ce_5{sp:Sp}{t:TA}{B f:Addr}{pl:Sem Bool}(b:BaseI X.K B f)(hr:RoomC cc k X.A)(lk:Lk X EX)(ok:FnX X.prog X.w X.K X.mg X.base cc k f fd ps sp)(hb:Binds X.K fd ps [])(hm:X.mg x=some (.ref B))(hg:Gl X x)(hdb:(x ==("__debug__" :Str))=false)(ha:PA X (e::es) t)
  (hst:starEach (e::es) X.env=(false,eval e X.env)::starEach es X.env) (hpl:(backTo pos (starEach es X.env)).any (·.1)=false)
  (ht:eval (.Call (.Attribute (.Name x pp) "__init__" zh) (e::es) [] pos) X.env=(do
   let ov←eval (.Name x pp) X.env
   standAt zh.atName
   let(f,first)←holding [ov] (getMethod ov "__init__" pl)
   callWith pos f first (backTo pos (starEach (e::es) X.env)) (backToKw pos (keywordEach [] X.env)))):
  PE X (.Call (.Attribute (.Name x pp) "__init__" zh) (e::es) [] pos) (fun σ H Q=>t σ H fun vs H1=>sp vs H1 Q (EXE X.K (EX σ))):=by
 intro zd s σ H Q I q;refine methodCall_KW (pl:=pl) (q_7 I hg hm ?_ hdb) ht;refine method_cls I.kIn b.sp (cls_value I.kIn b.rd b.at_ rfl ?_);refine callWith_K (first:= []) (h₀:=X.base) I.ok.mod.kin b.kp (thn (ha pos zd _ σ H _ (I.tok _) q) fun us s1 ⟨vs,H1,I1,r,q⟩=>⟨I1.kIn, ?_⟩) hst hpl;exact ay_4 ok hr hb lk I1 r q
theorem ce_6{i:Nat}{c y:Str}(js:List Nat){fe:FE}{F:List D→R (List Str×List D)}{p3 cv:Pos}{pl:Sem Bool}(hr:RoomC cc k' X.A)(lk:Lk X EX)(h:MakB X.prog X.w X.K X.mg X.base cc x c k 1 F)(he:ED X EX e fe)(hk:k≤k':=by decide)
  (hN:X.N[i]? =some y:=by rfl) (hv:Vis X.env.scope y:=by first|exact Or.inl rfl|exact Or.inr (Or.inl rfl)|exact Or.inr (Or.inr rfl)) (hd:(y ==("__debug__" :Str))=false:=by decide) (hcd:(y ==("__classdict__" :Str))=false:=by decide)
  (hg:Gl X x:=by rfl) (hdb:(x ==("__debug__" :Str))=false:=by decide) (hs1:starEach [.Name y p3,e] X.env=(false,eval (.Name y p3) X.env)::starEach [e] X.env:=by rfl) (hs2:starEach [e] X.env=(false,eval e X.env)::starEach [] X.env:=by rfl)
  (hpl:(backTo pos (starEach [e] X.env)).any (·.1)=false:=by rfl) (dz:swapsWith (.Call (.Attribute (.Name x pp) "__init__" zh) [.Name y p3,e] [] pos) none cv.line X.env=pure false:=by rfl)
  (ht:eval (.Call (.Attribute (.Name x pp) "__init__" zh) [.Name y p3,e] [] pos) X.env=(do
   let ov←eval (.Name x pp) X.env
   standAt zh.atName
   let(f,first)←holding [ov] (getMethod ov "__init__" pl)
   callWith pos f first (backTo pos (starEach [.Name y p3,e] X.env)) (backToKw pos (keywordEach [] X.env))):=by rfl):
  SD X EX (.Expr (.Call (.Attribute (.Name x pp) "__init__" zh) [.Name y p3,e] [] pos) cv) (w_0 i c js F fe):=by
 obtain⟨B,C,f,fd,ps,hC,hm,b,ok,hb⟩:=h;refine PS.imp (aw_8 (ce_5 b (hr.mono hk) lk ok hb hm hg hdb (i_7 (o_7 hN hv hd hcd) (i_7 he t_1 hs2) hs1) hs1 hpl ht) dz) fun D σ H ⟨H0,G0,G,Δ,O,E,q⟩=> ?_;obtain⟨G1,O1,sg,E1⟩:=E.gsome js;unfold w_0 at q;generalize gsome js Δ=Δ1 at q E1
 split at q
 ·rename_i c' e1
  split at q
  ·rename_i hcc;subst hcc;obtain⟨v0,s1,t0⟩:=E1.ow i _ _ e1 rfl;refine⟨v0,s1,G1,vsh Δ1,E1.st.gh,E1.gsh, ?_⟩;cases e2:fe (vsh Δ1) with
   |ex y=>simp only [e2] at q;exact q σ G1 H O1 E1 sg
   |no=>simp only [e2] at q;exact q.elim
   |ok w=>
    simp only [e2] at q;refine WP.intro fun v G2 H2 st r=> ?_;have E2:=E1.grow st;obtain⟨v1,s1',t⟩:=E2.ow i _ _ e1 rfl;rw [s1] at s1';cases s1';have s2:=E2.lt i _ e1
    split at q
    ·rename_i p ef;generalize et:(Tn.obj c' [] [])=tt at t;cases t with
     | @obj a C2 dx c2 ns2 us ts2 S S1 hC2 h hl ha sub rl=>
      injection et with et1 et2 et3
      subst et1 et2 et3;have:=hC.same hC2;subst this;have:us= []:=by cases us with|nil=>rfl|cons _ _=>simp at hl
      subst this;have ga:=(E2.out i a ha).1;refine⟨a,dx, [v],fun b=>if b=a then none else H2 b,G2, [w.d],rfl,rfl,if_pos rfl,fun b o z=> ?_,h,fun b o z=> ?_, .cons r .nil, ?_⟩
      ·simp only at z
       split at z
       ·cases z
       ·exact z
      ·simp only;rw [if_neg (c_2 z ga)];exact E2.st.gh b o z
      rw [ef];intro G' H' us' dx' ms g' hx zk rr;have nb:∀b,¬O1 i b→b≠a:=fun b nb w=>nb (by rw [w];exact ha);refine q σ G' H' _ (E2.step2 (S:=fun b=>b=a) (z:= .lt _) rfl (fun _ z=>by cases z) (fun _ _=>s2) ⟨fun b o n z=>ms.hh b o (by rw [if_neg (nb b n)];exact z),ms.gh,ms.gg,fun b n z1 z2=>ms.nw b z1 (by rw [if_neg (nb b n)];exact z2)⟩ s1 (fun b hb=> ?_) ?_) (sg.trans (st.gg.trans ms.gg))
      ·subst hb;exact⟨.inl ha,g',by rw [hx];simp⟩
      ·exact .obj (S1:=fun _=>False) hC hx zk rfl (fun _ z=>z.elim) (OwL.of rr)
     |_=>cases et
    ·exact q.elim
  ·exact q.elim
 ·exact q.elim
end
def FnBase(K:Frag)(B:Addr)(qual:Str)(st:Stmt):Prop:=∃f,BaseI K B f∧FnAt K "__init__" qual st f
theorem FnBase.mk{B:Addr}{qual:Str}{st:Stmt}{f:Addr}{oc kV dc pm cd ct:Value}{od an:Option Addr}{sl:Array (Option Value)}(s:specialIn K (.ref B) "__getattribute__" =some (some (.builtin "type.__getattribute__")))(r:readsIn K B (.type "type")=true)
  (a:findCls K (.ref B) (.type "type") "__init__" =some (.val (.ref f)))
  (l:K.lookup f=some ⟨oc,od, .func (fnOf "__init__" qual (h_4 st) (e_2 st) (b_0 st) .none kV dc pm an cd ct),sl⟩) (c:codeIn K cd qual=true) (k:keepIn K (.ref f)=true):FnBase K B qual st:=⟨f,⟨s,r,a,k⟩,FnAt.mk l c k⟩
end L3
namespace PySem
namespace F
end F
section
variable{prog:Program}{w:World}{A:Around}{E:Value→Shared→Prop}{s:Shared}
end
end PySem
namespace L3
open PySem PySem.Spec PyProof.Rows L2
variable{K:Frag}{fd:FuncData}{mg:Str→Option Value}{P:Program}{vs:List V}{us:List Value}{base:Heap}{H:Hp}{X:Cx}{pos:Pos}{v:V}
theorem FnX.never{w:World}{c:Bool}{k n:Nat}{f:Addr}{ps:List Str}(hn:n=ps.length):FnX P w K mg base c k f fd ps (spX K n fun _=> .no):=
 ⟨fun _ _ _ _ h=>h.1.trans hn,fun _ _ _ _ _ _ _ _ _ _ _ _ _ h=>by obtain⟨_,_,_,_,_,o⟩:=h;exact False.elim o⟩
section
variable{X:Cx}{EX:EXS}{a:Expr}{f:FE}{p p' pos pos':Pos}
end
structure OInst(K:Frag)(C:Addr):Prop where
 pg:plainGet K C "__class__" =true
 hd:hasDictIn K C=true
 cl:findIn K (.ref C) "__class__" =some (some (.builtin "object.__class__"))
 gs:specialIn K (.builtin "object.__class__") "__get__" =some (some (.builtin "getset_descriptor.__get__"))
 tk:takesIn K (.builtin "object.__class__")=some true
 ob:mroIn K C (.type "object")=some true
section
variable{X:Cx}{EX:EXS}{zd:List (Addr×Obj)}{σ:Sg}{G H:Hp}{s:Shared}
variable{a:Expr}{fo:FE}{tb:List (Str×Bool)}{pp pos:Pos}
end
section
variable{X:Cx}{EX:EXS}{pos:Pos}
theorem HasL.len{G:Hp}:∀{vs:List V} {ds:List D},HasL K G vs ds→vs.length=ds.length
 |_,_, .nil=>rfl
 |_,_, .cons _ r=>congrArg Nat.succ r.len
end
section
variable{P:Program}{w:World}{K:Frag}{mg:Str→Option Value}{base:Heap}{cc:Bool}{k n:Nat}{ps:List Str}{st:Stmt}{Fn:List D→R W}
end
def lstD:D→R (List D)
 | .lst ds=> .ok ds
 |_=> .no
def iLst(f:FE):FI:=fun δ=>(f δ).bind fun w=>lstD w.d
section
variable{X:Cx}{EX:EXS}{e tg:Expr}{f:FE}
theorem ce_7{l:Expr}{tl:TE}(hl:PE X l tl):PIZ X BX tg l (cy_9 X.K tl):=by
 intro zd s σ H R I h;refine thn (hl zd s σ H _ I h) fun v s1 ⟨x,H1,I1,r1,q1⟩=> ?_;obtain⟨a,e,⟨xs,hq⟩,q⟩:=q1;subst e;cases r1;obtain⟨its,rv,p,hz⟩:=I1.list hq;refine wpAny_pyIter_list p.isList ?_;refine⟨s1.heap.objs.size, [s1.heap.objs.size],_,_,H1,rfl,I1.kept (t':=s1.toks) fun b o e=>Heap.get?_push_of_some _ e,bm_8 a _,⟨_,Heap.get?_push_size _ rfl,rfl,rfl⟩,fun b hb=> ?_,q⟩;have e:b=s1.heap.objs.size:=by simpa using hb
 subst e;exact I1.fpOk (Nat.le_refl _) (I1.hok.fresh (Nat.le_refl _))
theorem PIZ.imp{B:Cx→Prop}{t t':TI}(h:PIZ X B tg e t)(i:∀σ H Q,t' σ H Q→t σ H Q):PIZ X B tg e t':=fun zd s σ H Q I q=>h zd s σ H Q I (i σ H Q q)
theorem ce_8(he:ED X EX e f):PIZ X BX tg e (tI X.K EX (iLst f)):=
 PIZ.imp (ce_7 he) fun σ H Q ⟨G,δ,g0,s0,o⟩=>by
  refine⟨G,δ,g0,s0, ?_⟩;unfold iLst at o;cases e1:f δ with
  |ok w=>
   rw [e1] at o;simp only [R.bind_ok] at o;refine WP.intro fun v G' H' st r=> ?_;revert r o;cases w.d with
   |lst ds=>
    intro o r;cases r with
    |lst h r=>exact⟨_,rfl,⟨_,Same.seq st.gh h⟩,o _ G' H' st (bf_3 h r)⟩
   |_=>intro o;exact False.elim o
  |ex x=>rw [e1] at o;exact o
  |no=>rw [e1] at o;exact o
theorem BX.pin{A:Around}{zd:List (Addr×Obj)}{σ:Sg}{s:Shared}(b:BX X)(eA:A.handled=X.A.handled)(I:Inv X zd σ H s):
  ∃ps:List (Addr×Obj),(∀h:Heap,(∀p∈ps,h.get? p.1=some p.2)→HdOk A h)∧(∀p∈ps,s.heap.get? p.1=some p.2)∧A.handled≠some (.ref s.heap.objs.size):=by
 rcases b with b|⟨x,o,u,us,e,h,d,c⟩
 ·exact⟨[],fun h _=> .inl (eA.trans b),fun p hp=>(by cases hp),by rw [eA,b];intro z;cases z⟩
 ·have g:=(I.hok x _ (I.base.frzs x o u h)).1;refine⟨[(x,o)],fun h k=> .inr ⟨x,o,us,eA.trans e,k (x,o) (List.mem_singleton.mpr rfl),d,c⟩,fun p hp=>by rw [List.mem_singleton.mp hp];exact g,fun z=> ?_⟩;rw [eA,e] at z;injection z with z
  injection z with z
  exact absurd (Heap.lt_size g) (by rw [z];exact Nat.lt_irrefl _)
theorem bi_7{prog:Program}{w:World}{A:Around}{J ax:Addr}{ps:List (Addr×Obj)}(hd:∀h:Heap,(∀p∈ps,h.get? p.1=some p.2)→HdOk A h)(ne:A.handled≠some (.ref J))(np:∀p∈ps,p.1≠J)(hne:ax≠J)(items:Array Value):
  Walks prog w A J (J::ax::ps.map (·.1)) [J] items.size (fun i v=>items[i]? =some v) (fun i h=>(h.IsListIter J ax i∧h.IsList ax items)∧∀p∈ps,h.get? p.1=some p.2) where
 sub:=fun b hb=>by simp at hb;simp [hb]
 frame:=fun _ _ _ st hk=>⟨⟨st.1.1.at fun o e=>hk J (by simp) o e,st.1.2.at fun o e=>hk ax (by simp) o e⟩,fun p hp=>hk p.1 (by simp;exact .inr (.inr ⟨_,hp⟩)) _ (st.2 p hp)⟩
 item:=fun i s Q E hi st hQ=>by
  refine wpAny_pyNext_list_item st.1.1 st.1.2 (x:=items[i]) (by simp [hi]) fun h' ff hs'=> ?_;exact hQ _ h' s.toks (by simp [hi]) ⟨⟨ff,st.1.2.extBut hs'.extBut hne⟩,fun p hp=>(hs'.2 p.1 (np p hp)).trans (st.2 p hp)⟩ fun b o hb e=>hs'.extBut b o (fun h=>hb (by simp [h])) e
 done:=fun s Q E st hQ=>aj_3 (hd _ st.2) ne st.1.1 st.1.2 (by simp) fun h' he'=>hQ h' s.toks fun b o hb e=>he' b o (fun h=>hb (by simp [h])) e
 self:=fun _ _ _ _ st hQ=>wpAny_pyIter_listiter st.1.1 hQ
theorem bx_9(bx:BX X):ae_2 X (.builtin "sum") sumD:=by
 intro zd s σ H vs us Q I rv q;obtain⟨EX,G,ds,g,r,o⟩:=q;cases r with
 |nil=>exact False.elim o
 |cons h t=>
  cases t with
  |cons _ _=>cases h <;> exact False.elim o
  |nil=>
   cases h with
   |lst h r=>
    rename_i l _ _;simp only [sumD] at o
    split at o
    ·rename_i is e;obtain⟨u,rfl,ru⟩:=rv.one;cases ru;obtain⟨its,rv',pl,hz⟩:=I.list (g.seq h);obtain⟨el,ev⟩:=br_1 r rv' e;have nl:l≠s.heap.objs.size:=fun z=>by
      obtain⟨o',ho,_⟩:=pl.isList;exact absurd (Heap.lt_size ho) (by rw [←z];exact Nat.lt_irrefl _)
     have ll:l < s.heap.objs.size:=by
      obtain⟨o',ho,_⟩:=pl.isList;exact Heap.lt_size ho
     obtain⟨ps,hps,hp1,hp2⟩:=bx.pin (A:=X.A.in1) rfl I;refine call_sum_walkAnyS (wpAny_pyIter_list pl.isList ⟨s.heap.objs.size,_,_,_,_,_,_,fun i=>is.getD i 0,rfl,(bi_7 (A:=X.A.in1) hps hp2 (fun p hp=>Nat.ne_of_lt (Heap.lt_size (hp1 p hp))) nl its.toArray).toS,⟨⟨⟨_,Heap.get?_push_size _ rfl,rfl,rfl⟩, ?_⟩,fun p hp=>Heap.get?_push_of_some _ (hp1 p hp)⟩,fun b hb=> ?_,fun i v hP=>ev i v (by simpa using hP),fun s' t' mv=> ?_⟩)
     ·exact pl.isList.at fun o z=>Heap.get?_push_of_some _ z
     ·rw [Heap.size_push];rcases List.mem_cons.mp hb with rfl|hb
      ·exact Nat.lt_succ_self _
      ·rcases List.mem_cons.mp hb with rfl|hb
       ·exact Nat.lt_succ_of_lt ll
       ·obtain⟨p,hp,rfl⟩:=List.mem_map.mp hb;exact Nat.lt_succ_of_lt (Heap.lt_size (hp1 p hp))
     ·have en:its.toArray.size=is.length:=by simp [el]
      rw [en,aj_7,List.take_length];obtain⟨m1,m2,m3,m4,m5⟩:=mv;have e':s'={s with heap:=s'.heap,toks:=s'.toks}:=by
       cases s';simp only at m2 m3 m4;subst m2 m3 m4;rfl
      rw [e'];refine⟨.int _,H,I.kept (t':=s'.toks) fun b o' z=>m1 b o' (by
       have hb:b≠s.heap.objs.size:=Nat.ne_of_lt (Heap.lt_size z);simpa using hb) (Heap.get?_push_of_some _ z),⟨t',rfl⟩,d_6 o g (.int _)⟩
    ·exact o.elim
   |_=>exact False.elim o
theorem ce_9{elt iter:Expr}{ifs:List Expr}{scope:Scope}{N':List Str}{fi:FI}{fg:FGc}{p:FT}{f:FE}{m:Nat}(bx:BX X)(hi:PIZ X.nox BX tg iter (tI X.K n_5 fi))(hk:scope.kind= .function)(hb:aj_6 scope.names X.env.scope.names X.N N'=true)
  (hm:N'.length=X.N.length + m)
  (hin:∀C s0 H0 fp pn,GC (g_7 X.nox scope (l_3 X.env.cells scope.names []) N' C s0 H0 fp pn) n_5 tg fg∧CTs (g_7 X.nox scope (l_3 X.env.cells scope.names []) N' C s0 H0 fp pn) n_5 ifs p∧ED (g_7 X.nox scope (l_3 X.env.cells scope.names []) N' C s0 H0 fp pn) n_5 elt f)
  (hs:∀x,foldedSetIterable iter X.env x=pure x:=by intro _;rfl):ED X EX (.ListComp elt [⟨tg,iter,ifs,0⟩] scope pos) (e_8 m fi fg p f):=
 PE.imp (PE.nox (au_9 (X:=X.nox) (fun _ _ z=>z) (B:=BX) (fun _ _ _ _ _ _ _ I=>BX.on (X:=X.nox) bx I rfl rfl) hi hk hb hm hin hs)) fun σ H Q ⟨G,δ,g0,h0,o⟩=>by
  refine⟨G,δ,g0,h0, ?_⟩;cases e:e_8 m fi fg p f δ with
  |ok w=>rw [e] at o;exact o
  |ex x=>exact(bf_4 e).elim
  |no=>rw [e] at o;exact o
theorem af_3{e:HX}:BX (hand X e):= .inr ⟨e.a,_,_,e.us,rfl,b_4,rfl,e.c2⟩
end
def HdF(A:Around)(H:Hp):Prop:=A.handled=none∨∃(x:Addr) (o:Obj) (u:HO) (us:Array Value),A.handled=some (.ref x)∧H x=some (.frz o u)∧o.data= .fields us∧us[2]? =some .none
theorem BX.F{zd:List (Addr×Obj)}{σ:Sg}{s:Shared}(b:BX X)(I:Inv X zd σ H s):HdF X.A H:=by
 rcases b with b|⟨x,o,u,us,e,h,d⟩
 ·exact .inl b
 ·exact .inr ⟨x,o,u,us,e,I.base.frzs x o u h,d⟩
theorem db_2{w:World}{N:List Str}{qual:Str}{scope:Scope}{f:Addr}{cd:Value}{A:Around}{outer:List Env}{s:Shared}{E:XK}(h:HdF A H):BX (cxN false P w K mg base N qual scope f cd A outer s H E):=h
structure FnB(P:Program)(w:World)(K:Frag)(mg:Str→Option Value)(base:Heap)(k:Nat)(f:Addr)(fd:FuncData)(ps:List Str)(sp:Sp):Prop where
 len:∀vs H Q E,sp vs H Q E→vs.length=ps.length
 run:∀(A:Around) (outer:List Env) (s:Shared) (H:Hp) (args:Args) (us:List Value) (vs:List V) (Q:VK) (E:XK),RoomC false k A→HdF A H→Env0 P w K mg base A outer s H→BindsTo s fd args (ps.zip us)→Vals vs us→sp vs H Q E→
  codeAny (model P w) A (.call (.ref f) args) (CR (CXr P w) outer P w H s Q E) s
theorem FnX.b{w:World}{k:Nat}{f:Addr}{ps:List Str}{sp:Sp}(F:FnX P w K mg base false k f fd ps sp):FnB P w K mg base k f fd ps sp:=⟨F.len,fun A outer s H args us vs Q E hr _=>F.run A outer s H args us vs Q E hr⟩
def FnDB(P:Program)(w:World)(K:Frag)(mg:Str→Option Value)(base:Heap)(x:Str)(k:Nat)(ps:List Str)(F:List D→R W):Prop:=
 ∃f fd,FnB P w K mg base k f fd ps (spX K ps.length F)∧mg x=some (.ref f)∧keepIn K (.ref f)=true∧Binds K fd ps []
theorem cx_1{w:World}{k:Nat}{f:Addr}{name qual:Str}{params:Arguments}{body:List Stmt}{scope:Scope}{dV kV doc pm zn ct oc:Value}{an od:Option Addr}
  {osl:Array (Option Value)} {N ps:List Str} {sp:Sp} (lk:K.lookup f=some ⟨oc,od, .func (fnOf name qual params body scope dV kV doc pm an zn ct),osl⟩) (hcd:codeIn K zn qual=true) (S:FnScope N ps scope)
  (len:∀vs H Q E,sp vs H Q E→vs.length=ps.length)
  (zj:∀(A:Around) (outer:List Env) (s:Shared) (H:Hp) (vs:List V) (Q:VK) (E:XK),HdF A H→RoomC false k (A.deeper (envOfC qual scope s.heap.objs.size f zn))→sp vs H Q E→
   ∃t,PSs (cxN false P w K mg base N qual scope f zn A outer s H E) body t∧t {nx:=fun _ H'=>Q .non H',rt:=Q} (m_5 N vs) H):
  FnB P w K mg base (k + 1) f (fnOf name qual params body scope dV kV doc pm an zn ct) ps sp:=by
 refine⟨len,fun A outer s H args us vs Q E hr hz e0 hb r hsp=> ?_⟩;have hl:=len _ _ _ _ hsp;have KX:K.In s.heap:=e0.mod.kin.keeps fun b o e=>(e0.bs b o e).1;have lim:s.heap.NoLimit:=e0.mod.nolimit.keeps fun b o e=>(e0.bs b o e).1;have au:∀y∈ps.zip us,scope.names.lookup y.1=some .local∨(scope.names.lookup y.1=some .cell∧((cellsFrom (s.heap.objs.size + 1) scope.names []).lookup y.1).isSome=true):=fun⟨n,v⟩ hy=>by
  rcases S.par n (List.of_mem_zip hy).1 with q|q
  ·exact .inl q
  ·exact .inr ⟨q,cellsFrom_some _ _ _ (.inl q)⟩
 have dp:A.depth < recursionLimit:=by have:=hr.dp;omega
 refine codeAny_call_function dp (KX _ _ lk) rfl S.co S.gen rfl (codeRec_of KX hcd) (hb _ _ _ _ ?_);refine wpAny_newFunctionEnv_cells S.kind au fun env he s1 x=> ?_;subst he;refine⟨lim.keeps x.toInCall.keep,codeAny_func ?_⟩;obtain⟨t,ht,hq⟩:=zj A outer s H vs Q E hz (hr.deeper _) hsp;have I:Inv (cxN false P w K mg base N qual scope f zn A outer s H E) [] (m_5 N vs) H s1:=ao_0 S hr.hd e0 hl r x;refine wpAny_mono (ht [] s1 (m_5 N vs) H _ I hq) (fun fl s' hs=> ?_) fun e s' hs=>hs;have fin:∀{σ':Sg} {H':Hp} {v:V} {u:Value},Inv (cxN false P w K mg base N qual scope f zn A outer s H E) [] σ' H' s'→RelV v u→Q v H'→CE outer P w H s Q u s':=
  fun{σ' H' v u} J rv q=>⟨v,H',J.os,J.bare,J.base,J.hok,rv,q⟩
 cases fl with
 |ret u=>
  obtain⟨v,σ',H',J,rv,q⟩:=hs;exact fin J rv q
 |next=>
  obtain⟨σ',H',J,q⟩:=hs;exact fin (v:=V.non) (u:=Value.none) J rfl q
 |brk=>
  obtain⟨_,_,_,q⟩:=hs;exact False.elim q
 |cont=>
  obtain⟨_,_,_,q⟩:=hs;exact False.elim q
theorem Fun.okB{w:World}{x qual:Str}{st:Stmt}{f:Addr}{N ps:List Str}{k:Nat}{sp:Sp}(F:Fun K x qual st f fd)(S:FnScope N ps (b_0 st))(len:∀vs H Q E,sp vs H Q E→vs.length=ps.length)
  (zj:∀(zn:Value) (A:Around) (outer:List Env) (s:Shared) (H:Hp) (vs:List V) (Q:VK) (E:XK),HdF A H→RoomC false k (A.deeper (envOfC qual (b_0 st) s.heap.objs.size f zn))→sp vs H Q E→
   ∃t,PSs (cxN false P w K mg base N qual (b_0 st) f zn A outer s H E) (e_2 st) t∧t {nx:=fun _ H'=>Q .non H',rt:=Q} (m_5 N vs) H):FnB P w K mg base (k + 1) f fd ps sp:=by
 obtain⟨oc,od,kV,doc,pm,an,zn,ct,osl,rfl,lk,hcd⟩:=F.ex;exact cx_1 lk hcd S len fun A outer s H vs Q E hz hr hsp=>zj zn A outer s H vs Q E hz hr hsp
section
variable{X:Cx}{EX:EXS}{e:Expr}{es:List Expr}{fa:FA}{x:Str}{pp pos:Pos}{k k':Nat}{ps:List Str}{F:List D→R W}
theorem cn_3{zd:List (Addr×Obj)}{σ:Sg}{s:Shared}{Q:VK}{f:Addr}{sp:Sp}(F:FnB X.prog X.w X.K X.mg X.base k f fd ps sp)(bx:BX X)(hr:RoomC false k X.A)(hb:Binds X.K fd ps [])(lk:Lk X EX)
  (I:Inv X zd σ H s) (r:Vals vs us) (h:sp vs H Q (EXE X.K (EX σ))):wpAny (model X.prog X.w) X.A (call (.ref f) us) (EP X zd σ Q) X.xe s:=by
 have hl:us.length=ps.length:=by rw [←r.length];exact F.len _ _ _ _ h
 have hb':=hb s us I.kIn (by rw [List.append_nil];exact hl);rw [List.append_nil] at hb';refine wpAny_call (codeAny_mono (F.run X.A X.stack s H ⟨us, []⟩ us vs Q _ hr (bx.F I) I.env0 hb' r h) fun r s' hq=> ?_);cases r with
 |error e=>exact lk zd σ H s e s' I hq
 |ok fl=>
  cases fl with
  |ret u=>exact I.after hq
  |next=>exact False.elim hq
  |brk=>exact False.elim hq
  |cont=>exact False.elim hq
theorem y_6(bx:BX X)(hr:RoomC false k' X.A)(lk:Lk X EX)(h:FnDB X.prog X.w X.K X.mg X.base x k ps F)(ha:AD X EX (e::es) fa)(hk:k≤k':=by decide)(hg:Gl X x:=by rfl)(hdb:(x ==("__debug__" :Str))=false:=by decide)
  (he:starEach (e::es) X.env=(false,eval e X.env)::starEach es X.env:=by rfl) (hpl:(backTo pos (starEach es X.env)).any (·.1)=false:=by rfl):
  ED X EX (.Call (.Name x pp) (e::es) [] pos) (eFn ps.length F fa):=by
 obtain⟨f,fd,ok,hm,kp,hb⟩:=h;intro zd s σ H Q I q;obtain⟨G,δ,g0,s0,o⟩:=q;refine wpAny_Call_Name_kw (q_7 I hg hm ?_ hdb);have ta:tDa X.K EX fa σ H fun vs H1=>spX X.K ps.length F vs H1 Q (EXE X.K (EX σ)):=by
  refine tDa.seq g0 s0 o fun ds vs G' H' _ st r o'=> ?_
  split at o'
  ·rename_i hl;refine⟨by rw [r.length];exact hl,G',ds,st.gh,r, ?_⟩;cases q:F ds with
   |ok w=>rw [q] at o';exact o'
   |ex x=>rw [q] at o';exact EXof.in o'
   |no=>rw [q] at o';exact o'.elim
  ·exact o'.elim
 refine callWith_K (h₀:=X.base) I.ok.mod.kin kp (thn (ha pos zd s σ H _ I ta) fun us s1 ⟨vs,H1,I1,r,q⟩=>⟨I1.kIn, ?_⟩) he hpl;exact cn_3 ok bx (hr.mono hk) hb lk I1 r q
end
section
variable{X:Cx}{EX:EXS}{tg a:Expr}{fa:FA}{p pos:Pos}
end
theorem fn_B{w:World}{x qual:Str}{st:Stmt}{f:Addr}{N ps:List Str}{k:Nat}{g:FS}(F:Fun K x qual st f fd)(S:FnScope N ps (b_0 st))
  (zj:∀(zn:Value) (A:Around) (outer:List Env) (s:Shared) (H:Hp) (E:XK),HdF A H→RoomC false k (A.deeper (envOfC qual (b_0 st) s.heap.objs.size f zn))→
   BD (cxN false P w K mg base N qual (b_0 st) f zn A outer s H E) (fun _=>EXof K E) (e_2 st) g):FnB P w K mg base (k + 1) f fd ps (spX K ps.length (bodyD N.length g)):=by
 refine Fun.okB F S (fun vs H Q E h=>h.1) fun zn A outer s H vs Q E hz hr h=>⟨_,zj zn A outer s H E hz hr, ?_⟩;obtain⟨hl,G,ds,g0,r,o⟩:=h;refine⟨⟨H,fun _=>0⟩,G,G,_,_,bf_2 g0 r, ?_⟩;unfold bodyD at o;cases e:g (start3 N.length ds) with
 |nx Δ=>rw [e] at o;exact fun σ G' H' O E' _=>(WP.mono (w:= .sh .non) (Q:=Q) E'.st o).use E'.st.gh .non
 |rt w=>rw [e] at o;exact o
 |ex x Δ=>rw [e] at o;exact fun σ G' H' O E' _=>(EXof K E).mono _ _ _ _ _ E'.st o
 |bk Δ=>rw [e] at o;exact o.elim
 |ct Δ=>rw [e] at o;exact o.elim
 |no=>rw [e] at o;exact o
theorem db_4{w:World}{x qual:Str}{st:Stmt}{f:Addr}{N ps:List Str}{k:Nat}{g:FS}(F:Fun K x qual st f fd)
  (zj:∀{zn:Value} {A:Around} {outer:List Env} {s:Shared} {Hb:Hp} {E:XK},BX (cxN false P w K mg base N qual (b_0 st) f zn A outer s Hb E)→RoomC false k (Cx.A (cxN false P w K mg base N qual (b_0 st) f zn A outer s Hb E))→(Cx.A (cxN false P w K mg base N qual (b_0 st) f zn A outer s Hb E)).units + 64 < cLine→N.Nodup→Lk (cxN false P w K mg base N qual (b_0 st) f zn A outer s Hb E) (fun _=>EXof K E)→
   BD (cxN false P w K mg base N qual (b_0 st) f zn A outer s Hb E) (fun _=>EXof K E) (e_2 st) g)
  (S:FnScope N ps (b_0 st):=by exact⟨rfl,rfl,rfl,by decide +kernel,rfl,by decide +kernel,by decide +kernel⟩):FnB P w K mg base (k + 1) f fd ps (spX K ps.length (bodyD N.length g)):=
 fn_B F S fun zn A outer s H E hz hr=>zj (db_2 hz) hr (RoomC.units hr) S.nd bm_3
end L3
namespace My
open PySem L2 L3
def av_4:FS:=
  (sSeq (sIf [0,1] (eTest (eOp ltD (eVar 1) (eCall k_2 (aCons (eVar 0) aNil))))
   (sRet [0,1] (eOp ixD (eVar 0) (eVar 1)))
   sNil)
  (sRet [] (eC (.int 0))))
def i_3:List D→R W:=bodyD 2 av_4
def av_5:FS:=
  (sSeq (sSet 2 [0,1] (eOp d_7 (eOp p_9 (eOp b_6 (eVar 0) (eC (.int 1))) (eOp b_6 (eC (.int 48271)) (eOp p_9 (eC (.int 118)) (eVar 1)))) (eC (.int 2147483629))))
  (sRet [1,2] (eOp d_7 (eOp b_6 (eOp b_6 (eOp p_9 (eOp h_1 (eVar 2) (eC (.int 977))) (eC (.int 16807))) (eOp p_9 (eVar 2) (eOp b_6 (eOp p_9 (eVar 1) (eVar 1)) (eC (.int 7))))) (eVar 1)) (eC (.int 2147483587)))))
def g_1:List D→R W:=bodyD 3 av_5
def ap_0:FS:=
  (sRet [0,1] (eFn 2 g_1 (aCons (eOp d_7 (eFn 2 i_3 (aCons (eVar 0) (aCons (eVar 1) aNil))) (eC (.int 2147483647))) (aCons (eOp b_6 (eVar 1) (eC (.int 101))) aNil))))
def g_3:List D→R W:=bodyD 2 ap_0
def ak_0:FS:=
  (sRet [0] (eOp b_6 (eOp p_9 (eOp b_6 (eOp p_9 (eFn 2 g_1 (aCons (eVar 0) (aCons (eC (.int 1)) aNil))) (eC (.int 2147483587))) (eFn 2 g_1 (aCons (eVar 0) (aCons (eC (.int 2)) aNil)))) (eC (.int 2147483587))) (eFn 2 g_1 (aCons (eVar 0) (aCons (eC (.int 3)) aNil)))))
def k_4:List D→R W:=bodyD 1 ak_0
def t_6:FE:=
  (eFn 2 i_3 (aCons (eVar 0) (aCons (eOp b_6 (eVar 1) (eVar 5)) aNil)))
def t_7:FE:=
  (eFn 1 k_4 (aCons (eFn 2 g_1 (aCons (eFn 2 g_3 (aCons (eVar 0) (aCons (eOp b_6 (eVar 1) (eOp d_7 (eVar 5) (eCall maxD (aCons (eC (.int 1)) (aCons (eVar 3) aNil))))) aNil))) (aCons (eVar 5) aNil))) aNil))
def y_7:FS:=
  (sSeq (sSet 3 [0,1] (eCall maxD (aCons (eC (.int 0)) (aCons (eOp subD (eCall k_2 (aCons (eVar 0) aNil)) (eVar 1)) aNil))))
  (sSeq (sIf [0] (eTest (eOp eqD (eOp d_7 (eFn 2 i_3 (aCons (eVar 0) (aCons (eC (.int 0)) aNil))) (eC (.int 2))) (eC (.int 0))))
   (sRet [0,1,2,3] (e_8 1 (iArgs p_1 (aCons (eCall minD (aCons (eVar 2) (aCons (eVar 3) aNil))) aNil)) (gC 5) (fun _=> .ok true) t_6))
   sNil)
  (sSeq (sSet 4 [0,2,3] (eCall minD (aCons (eVar 2) (aCons (eCall maxD (aCons (eVar 3) (aCons (eOp b_6 (eC (.int 1)) (eOp d_7 (eFn 2 g_3 (aCons (eVar 0) (aCons (eC (.int 0)) aNil))) (eVar 2))) aNil))) aNil))))
  (sRet [0,1,3,4] (e_8 1 (iArgs p_1 (aCons (eVar 4) aNil)) (gC 5) (fun _=> .ok true) t_7)))))
def m_7:List D→R W:=bodyD 5 y_7
def y_8:FS:=
  (sSeq (sSet 2 [2,5] (eOp h_1 (eVar 2) (eOp ixD (eLst (aCons (eC (.int 12)) (aCons (eC (.int 39)) aNil))) (eCall ab_5 (aCons (eOp gtD (eVar 5) (eC (.int 0))) aNil)))))
  (sSet 3 [1,2,3] (eOp b_6 (eVar 3) (eOp ixD (eVar 1) (eOp d_7 (eVar 2) (eC (.int 39)))))))
def ab_0:FS:=
  (sSeq (sSet 1 [] (eC (.str "abcdefghijklmnopqrstuvwxyz0123456789-_ ")))
  (sSeq (sSet 2 [0] (eOp h_1 (eVar 0) (eC (.int 3))))
  (sSeq (sIf [0] (eTest (eOp eqD (eOp d_7 (eVar 0) (eC (.int 3))) (eC (.int 0))))
   (sRet [2] (eOp d_7 (eVar 2) (eOp powD (eC (.int 10)) (eC (.int 18)))))
   sNil)
  (sSeq (sIf [0] (eTest (eOp eqD (eOp d_7 (eVar 0) (eC (.int 3))) (eC (.int 2))))
   (sRet [2] (eOp d_7 (eVar 2) (eC (.int 50))))
   sNil)
  (sSeq (sSet 3 [] (eC (.str "")))
  (sSeq (sSet 4 [2] (eOp d_7 (eVar 2) (eC (.int 12))))
  (sSeq (i_8 [4] (iArgs p_1 (aCons (eVar 4) aNil)) (gV 5) y_8)
  (sRetV 3))))))))
def m_8:List D→R W:=bodyD 6 ab_0
def r_1:FS:=
  (sSeq (sSet 5 [4] (eFn 1 m_8 (aCons (eVar 4) aNil)))
  (sIf [3,5] (eTest (eOp (inD true) (eVar 5) (eVar 3)))
   (sApp 3 (eVar 5))
   sNil))
def ad_1:FS:=
  (sSeq (sSet 3 [] (eLst aNil))
  (sSeq (i_8 [0,1,2] (iOf (eFn 3 m_7 (aCons (eVar 0) (aCons (eVar 1) (aCons (eVar 2) aNil))))) (gV 4) r_1)
  (sSeq (sIf [3] (eTest (eOp eqD (eVar 3) (eLst aNil)))
   (sSet 3 [0] (eLst (aCons (eFn 1 m_8 (aCons (eOp h_1 (eFn 2 i_3 (aCons (eVar 0) (aCons (eC (.int 0)) aNil))) (eC (.int 2))) aNil)) aNil)))
   sNil)
  (sRetV 3))))
def p_4:List D→R W:=bodyD 6 ad_1
def t_8:FS:=
  (sSeq (sSet 1 [0] (eOp ixD (eLst (aCons (eC (.int 1)) (aCons (eOp b_6 (eC (.int 1)) (eOp d_7 (eOp h_1 (eVar 0) (eC (.int 8))) (eC (.int 9)))) (aCons (eOp b_6 (eOp powD (eC (.int 10)) (eC (.int 20))) (eOp d_7 (eOp h_1 (eVar 0) (eC (.int 8))) (eOp powD (eC (.int 10)) (eC (.int 9))))) aNil)))) (eOp d_7 (eOp h_1 (eVar 0) (eC (.int 2))) (eC (.int 3)))))
  (sSeq (sIf [0] (eTest (eOp eqD (eOp d_7 (eVar 0) (eC (.int 2))) (eC (.int 0))))
   (sRet [0,1] (eOp ixD (eLst (aCons (eOp subD (eC (.int 0)) (eVar 1)) (aCons (eOp b_6 (eOp subD (eOp powD (eC (.int 10)) (eC (.int 18))) (eC (.int 1))) (eVar 1)) aNil))) (eOp d_7 (eOp h_1 (eVar 0) (eC (.int 64))) (eC (.int 2)))))
   sNil)
  (sSeq (sSet 2 [0] (eOp b_6 (eOp b_6 (eOp mulT (eC (.str "a")) (eOp d_7 (eOp h_1 (eVar 0) (eC (.int 64))) (eC (.int 9)))) (eOp ixD (eC (.str "A.?")) (eOp d_7 (eOp h_1 (eVar 0) (eC (.int 8))) (eC (.int 3))))) (eC (.str "z"))))
  (sRet [0,2] (eOp ixD (eLst (aCons (eOp mulT (eC (.str "k")) (eOp b_6 (eC (.int 12)) (eOp d_7 (eOp h_1 (eVar 0) (eC (.int 64))) (eC (.int 3))))) (aCons (eVar 2) (aCons (eC (.str "a\n")) aNil)))) (eOp d_7 (eOp h_1 (eVar 0) (eC (.int 2))) (eC (.int 3))))))))
def h_7:List D→R W:=bodyD 3 t_8
def l_5:FE:=
  (eOp d_7 (eVar 6) (eC (.int 200)))
def s_0:FS:=
  (sSeq (sSet 2 [1] (eOp d_7 (eVar 1) (eC (.int 6))))
  (sSeq (sSet 3 [0,1] (eOp d_7 (eOp h_1 (eVar 1) (eC (.int 6))) (eOp b_6 (eCall k_2 (aCons (eVar 0) aNil)) (eC (.int 1)))))
  (sSeq (sSet 4 [1] (eFn 1 h_7 (aCons (eOp h_1 (eVar 1) (eC (.int 300))) aNil)))
  (sSeq (sIf [2] (eTest (eOp eqD (eVar 2) (eC (.int 0))))
   (sSeq (sSet 5 [1,4] (eOp b_6 (eRng p_1 (aCons (eOp b_6 (eC (.int 201)) (eOp d_7 (eOp h_1 (eVar 1) (eC (.int 6))) (eC (.int 9)))) aNil)) (eRep (aCons (eVar 4) aNil) (eOp d_7 (eOp h_1 (eVar 1) (eC (.int 60))) (eC (.int 2))))))
  (sRet [1,5] (eOp ixD (eLst (aCons (eLst aNil) (aCons (eVar 5) aNil))) (eOp d_7 (eOp h_1 (eVar 1) (eC (.int 120))) (eC (.int 2))))))
   sNil)
  (sSeq (sIf [2] (eTest (eOp eqD (eVar 2) (eC (.int 1))))
   (sRet [] (e_8 1 (iArgs p_1 (aCons (eC (.int 201)) aNil)) (gC 6) (fun _=> .ok true) l_5))
   sNil)
  (sSeq (sIf [2] (eTest (eOp eqD (eVar 2) (eC (.int 2))))
   (sRet [0,3,4] (eOp b_6 (eOp b_6 (eSlice (eVar 0) oNone (oSome (eVar 3))) (eLst (aCons (eVar 4) aNil))) (eSlice (eVar 0) (oSome (eVar 3)) oNone)))
   sNil)
  (sSeq (sIf [2] (eTest (eOp eqD (eVar 2) (eC (.int 3))))
   (sRet [0,3,4] (eOp b_6 (eOp b_6 (eOp b_6 (eSlice (eVar 0) oNone (oSome (eVar 3))) (eLst (aCons (eVar 4) aNil))) (eSlice (eVar 0) (oSome (eVar 3)) oNone)) (eLst (aCons (eVar 4) (aCons (eOp ixD (eVar 0) (eC (.int 0))) aNil)))))
   sNil)
  (sSeq (sIf [2] (eTest (eOp eqD (eVar 2) (eC (.int 4))))
   (sRet [0,1,3] (eOp b_6 (eOp b_6 (eSlice (eVar 0) oNone (oSome (eVar 3))) (eLst (aCons (eOp ixD (eVar 0) (eOp d_7 (eOp h_1 (eVar 1) (eC (.int 60))) (eCall k_2 (aCons (eVar 0) aNil)))) aNil))) (eSlice (eVar 0) (oSome (eVar 3)) oNone)))
   sNil)
  (sRet [0,1] (eOp b_6 (eVar 0) (eSlice (eVar 0) oNone (oSome (eOp b_6 (eC (.int 1)) (eOp d_7 (eOp h_1 (eVar 1) (eC (.int 60))) (eCall k_2 (aCons (eVar 0) aNil))))))))))))))))
def k_5:List D→R W:=bodyD 6 s_0
def e_5:FS:=
  (sSeq (sIf [0,2] (tOrF (eTest (eOp (inD true) (eVar 2) (eC (.str "abcdefghijklmnopqrstuvwxyz0123456789-_ ")))) (eTest (eOp gtD (eCall k_2 (aCons (eVar 0) aNil)) (eC (.int 11)))))
   (sRet [] (eC .non))
   sNil)
  (sSet 1 [1,2] (eOp b_6 (eOp b_6 (eOp p_9 (eVar 1) (eC (.int 40))) (eMeth "str" ac_8 (eC (.str "abcdefghijklmnopqrstuvwxyz0123456789-_ ")) (aCons (eVar 2) aNil))) (eC (.int 1)))))
def m_9:FS:=
  (sSeq (sIf [0] (eTruth (eIs "int" (eVar 0)))
   (sRet [0] (eOp ixD (eLst (aCons (eC .non) (aCons (eOp p_9 (eC (.int 2)) (eVar 0)) aNil))) (eCall ab_5 (aCons (t_2 leD ltD (eC (.int 0)) (eVar 0) (eOp powD (eC (.int 10)) (eC (.int 18)))) aNil))))
   sNil)
  (sSeq (sSet 1 [] (eC (.int 0)))
  (sSeq (i_8 [0] (iOf (eVar 0)) (gV 2) e_5)
  (sRet [1] (eOp b_6 (eOp p_9 (eC (.int 2)) (eVar 1)) (eC (.int 1)))))))
def f_7:List D→R W:=bodyD 3 m_9
def f_8:FS:=
  (sIf [2] (eTest (eOp (isND false) (eFn 1 f_7 (aCons (eVar 2) aNil)) (eC .non)))
   (sRet [1] (eLst (aCons (eC (.str "key")) (aCons (eVar 1) aNil))))
   sNil)
def f_9:FS:=
  (sIf [0,1,2] (eTest (eOp (inD false) (eVar 2) (eSlice (eVar 0) oNone (oSome (eVar 1)))))
   (sRet [1] (eLst (aCons (eC (.str "twice")) (aCons (eVar 1) aNil))))
   sNil)
def r_3:FS:=
  (sSeq (sIf [0] (tOrF (eTest (eOp ltD (eCall k_2 (aCons (eVar 0) aNil)) (eC (.int 1)))) (eTest (eOp gtD (eCall k_2 (aCons (eVar 0) aNil)) (eC (.int 200)))))
   (sRet [] (eLst (aCons (eC (.str "keys")) (aCons (eC (.int 0)) aNil))))
   sNil)
  (sSeq (i_8 [0] (r_7 (eVar 0)) (gV2 1 2) f_8)
  (sSeq (i_8 [0] (r_7 (eVar 0)) (gV2 1 2) f_9)
  (sRet [] (eC .non)))))
def i_4:List D→R W:=bodyD 3 r_3
def ak_1:FS:=
  (sSeq (sSet 3 [] (eC (.int 2305843009213693951)))
  (sSeq (sSet 4 [1,3] (eOp b_6 (eC (.int 1)) (eOp d_7 (eOp b_6 (eOp p_9 (eC (.int 1103515245)) (eVar 1)) (eC (.int 12345))) (eOp subD (eVar 3) (eC (.int 1))))))
  (sSeq (sSet 5 [1,3] (eOp d_7 (eOp b_6 (eOp p_9 (eOp p_9 (eC (.int 69069)) (eVar 1)) (eVar 1)) (eOp p_9 (eC (.int 7)) (eVar 1))) (eVar 3)))
  (sSeq (sSet 6 [0,3,4,5] (eOp d_7 (eOp b_6 (eOp p_9 (eVar 4) (eVar 0)) (eVar 5)) (eVar 3)))
  (sRet [2,6] (eOp d_7 (eOp b_6 (eVar 6) (eOp h_1 (eVar 6) (eC (.int 2147483648)))) (eVar 2)))))))
def n_0:List D→R W:=bodyD 7 ak_1
def n_9:FE:=
  (eFn 3 n_0 (aCons (eVar 2) (aCons (eVar 1) (aCons (eCall k_2 (aCons (eVar 0) aNil)) aNil))))
def af_4:FS:=
  (sRet [0,1] (eOp eqD (ae_8 (e_8 1 (iOf (eVar 0)) (gC 2) (fun _=> .ok true) n_9)) (eCall k_2 (aCons (eVar 0) aNil))))
def o_0:List D→R W:=bodyD 2 af_4
def r_2:FT:=
  (eTest (eOp eqD (eFn 3 n_0 (aCons (eVar 2) (aCons (eVar 1) (aCons (eC (.int 2)) aNil)))) (eC (.int 0))))
def ap_1:FS:=
  (sRet [0,1] (e_8 1 (iOf (eVar 0)) (gC 2) r_2 (eVar 2)))
def m_3:List D→R W:=bodyD 2 ap_1
def ad_2:FS:=
  (sSeq (sIf [0,1] (eTest (eOp leD (eCall k_2 (aCons (eVar 0) aNil)) (eVar 1)))
   (sRet [0,2] (eFn 2 o_0 (aCons (eVar 0) (aCons (eVar 2) aNil))))
   sNil)
  (sRet [0,2] (eOp eqD (eCall k_2 (aCons (eFn 2 m_3 (aCons (eVar 0) (aCons (eVar 2) aNil))) aNil)) (eOp h_1 (eOp b_6 (eCall k_2 (aCons (eVar 0) aNil)) (eC (.int 1))) (eC (.int 2))))))
def p_5:List D→R W:=bodyD 3 ad_2
def k_6:FT:=
  (tAndF (eTest (eOp ltD (eVar 4) (eVar 2))) (tNotF (eTruth (eFn 3 p_5 (aCons (eVar 0) (aCons (eVar 1) (aCons (eVar 4) aNil)))))))
def s_1:FS:=
  (sSet 4 [4] (eOp b_6 (eVar 4) (eC (.int 1))))
def o_1:FT:=
  (eTest (eOp (inD true) (eVar 8) (eVar 6)))
def w_1(S:List D→R W):FS:=
  (sSeq (sSet 4 [] (eC (.int 0)))
  (sSeq (h_2 [0,1,2,4] k_6 s_1 3000)
  (sSeq (sIf [2,4] (eTest (eOp eqD (eVar 4) (eVar 2)))
   (sRet [3] (eLst (aCons (eC (.bl false)) (aCons (eVar 3) aNil))))
   sNil)
  (sSeq (sSet 5 [3,4] (eOp b_6 (eVar 3) (eLst (aCons (eVar 4) aNil))))
  (sSeq (sIf [0,1] (eTest (eOp leD (eCall k_2 (aCons (eVar 0) aNil)) (eVar 1)))
   (sRet [5] (eLst (aCons (eC (.bl true)) (aCons (eVar 5) aNil))))
   sNil)
  (sSeq (sSet 6 [0,4] (eFn 2 m_3 (aCons (eVar 0) (aCons (eVar 4) aNil))))
  (sSeq (sUnp (gP 7 5) [1,2,5,6] (eFn 4 S (aCons (eVar 6) (aCons (eVar 1) (aCons (eVar 2) (aCons (eVar 5) aNil))))))
  (sSeq (sIf [7] (tNotF (eTruth (eVar 7)))
   (sRet [5] (eLst (aCons (eC (.bl false)) (aCons (eVar 5) aNil))))
   sNil)
  (sRet [0,1,2,5,6] (eFn 4 S (aCons (e_8 1 (iOf (eVar 0)) (gC 8) o_1 (eVar 8)) (aCons (eVar 1) (aCons (eVar 2) (aCons (eVar 5) aNil))))))))))))))
def f_0:Nat→List D→R W
 |0=>fun _=> .no
 |n + 1=>bodyD 8 (w_1 (f_0 n))
def as_3:FE:=
  (eCall ab_5 (aCons (eVar 2) aNil))
def bi_8:FS:=
  (sSeq (sIf [0] (tOrF (tNotF (eTruth (eIsC [("NoFit",true),("NoKey",true),("NoKeys",true),("Twice",true)] (eVar 0)))) (tNotF (eTruth (eIsC [("NoFit",true),("NoKey",true),("NoKeys",true),("Twice",true)] (eVar 0)))))
   (sRet [] (eC (.int 0)))
   sNil)
  (sSeq (sSet 1 [0] (eLst (aCons (eIsC [("NoFit",true),("NoKey",false),("NoKeys",false),("Twice",false)] (eVar 0)) (aCons (eIsC [("NoFit",false),("NoKey",true),("NoKeys",false),("Twice",false)] (eVar 0)) aNil))))
  (sSeq (sSet 1 [0,1] (eOp b_6 (eVar 1) (eLst (aCons (eIsC [("NoFit",false),("NoKey",false),("NoKeys",true),("Twice",false)] (eVar 0)) (aCons (eIsC [("NoFit",false),("NoKey",false),("NoKeys",false),("Twice",true)] (eVar 0)) aNil)))))
  (sSeq (sIf [0] (eTruth (eIsC [("NoFit",false),("NoKey",false),("NoKeys",false),("Twice",false)] (eVar 0)))
   (sRet [] (eC (.int 0)))
   sNil)
  (sSeq (sIf [0] (eTruth (eIsC [("NoFit",false),("NoKey",false),("NoKeys",false),("Twice",false)] (eVar 0)))
   (sRet [] (eC (.int 0)))
   sNil)
  (sRet [1] (eCall sumD (aCons (e_8 1 (iLst (eVar 1)) (gC 2) (fun _=> .ok true) as_3) aNil))))))))
def k_7:List D→R W:=bodyD 2 bi_8
def g_4:FE:=
  (eOp (inD false) (eVar 1) (eC (.str "abcdefghijklmnopqrstuvwxyz0123456789-_ ")))
def p_7:FS:=
  (sRet [0] (eAnd (eOp leD (eCall k_2 (aCons (eVar 0) aNil)) (eC (.int 11))) (eCall allD (aCons (e_8 1 (iOf (eVar 0)) (gC 1) (fun _=> .ok true) g_4) aNil))))
def g_9:List D→R W:=bodyD 1 p_7
def u_7:FS:=
  (sSeq (sIf [0] (eTruth (eIs "bool" (eVar 0)))
   (sRet [] (eC (.bl false)))
   sNil)
  (sSeq (sIf [0] (eTruth (eIs "int" (eVar 0)))
   (sRet [0] (t_2 leD leD (eC (.int 0)) (eVar 0) (eC (.int 999999999999999999))))
   sNil)
  (sRet [0] (eAnd (eIs "str" (eVar 0)) (eFn 1 g_9 (aCons (eVar 0) aNil))))))
def k_8:List D→R W:=bodyD 1 u_7
def g_2:FS:=
  (sIf [2] (tNotF (eTruth (eFn 1 k_8 (aCons (eVar 2) aNil))))
   (q_2 "NoKey" "at" [1] (eVar 1))
   sNil)
def q_3:FS:=
  (i_8 [0] (r_7 (eVar 0)) (gV2 1 2) g_2)
def d_1:List D→R W:=bodyD 3 q_3
def g_5:FS:=
  (sSeq (sIf [1,3] (eTest (eOp (inK false) (eVar 3) (eVar 1)))
   (q_2 "Twice" "at" [2] (eVar 2))
   sNil)
  (br_5 1 [] (eVar 3) (eC (.bl true))))
def t_9:FS:=
  (sSeq (sSet 1 [] br_4)
  (i_8 [0] (r_7 (eVar 0)) (gV2 2 3) g_5))
def h_8:List D→R W:=bodyD 4 t_9
def n_1:FS:=
  (sSeq (sIf [0] (tOrF (eTest (eOp eqD (eCall k_2 (aCons (eVar 0) aNil)) (eC (.int 0)))) (eTest (eOp gtD (eCall k_2 (aCons (eVar 0) aNil)) (eC (.int 200)))))
   (am_3 "NoKeys")
   sNil)
  (sSeq (sExpr [0] (eFn 1 d_1 (aCons (eVar 0) aNil)))
  (sSeq (sExpr [0] (eFn 1 h_8 (aCons (eVar 0) aNil)))
  (sRet [0] (eCall k_2 (aCons (eVar 0) aNil))))))
def c_4:List D→R W:=bodyD 1 n_1
def av_6:FS:=
  (sRet [0,1] (eOp leD (eVar 0) (eCall maxD (aCons (eVar 1) (aCons (eC (.int 1)) aNil)))))
def n_2:List D→R W:=bodyD 2 av_6
def bs_5:FS:=
  (sSeq (sIf [2] (eTest (eOp eqD (eVar 2) (eC (.int 0))))
   (sRet [] (eC (.int 0)))
   sNil)
  (sSeq (sSet 3 [1] (eOp b_6 (eC (.int 1)) (eOp d_7 (eOp b_6 (eOp p_9 (eC (.int 1103515245)) (eVar 1)) (eC (.int 12345))) (eOp subD (eC (.int 2305843009213693951)) (eC (.int 1))))))
  (sSeq (sSet 4 [1] (eOp d_7 (eOp b_6 (eOp p_9 (eOp p_9 (eC (.int 69069)) (eVar 1)) (eVar 1)) (eOp p_9 (eC (.int 7)) (eVar 1))) (eC (.int 2305843009213693951))))
  (sSeq (sSet 5 [0,3,4] (eOp d_7 (eOp b_6 (eOp p_9 (eVar 3) (eVar 0)) (eVar 4)) (eC (.int 2305843009213693951))))
  (sRet [2,5] (eOp d_7 (eOp b_6 (eVar 5) (eOp h_1 (eVar 5) (eC (.int 2147483648)))) (eVar 2)))))))
def s_7:List D→R W:=bodyD 6 bs_5
def s_8:FT:=
  (eTest (eOp eqD (eFn 3 s_7 (aCons (eVar 3) (aCons (eVar 1) (aCons (eC (.int 2)) aNil)))) (eVar 2)))
def av_7:FS:=
  (sRet [0,1,2] (e_8 1 (iOf (eVar 0)) (gC 3) s_8 (eVar 3)))
def p_6:List D→R W:=bodyD 3 av_7
def ak_2:FS:=
  (sRet [0] (eOp h_1 (eOp b_6 (eVar 0) (eC (.int 1))) (eC (.int 2))))
def k_9:List D→R W:=bodyD 1 ak_2
def p_8:FE:=
  (eFn 3 s_7 (aCons (eVar 4) (aCons (eVar 1) (aCons (eVar 3) aNil))))
def y_9:FS:=
  (sSeq (sSet 3 [0] (eCall k_2 (aCons (eVar 0) aNil)))
  (sSeq (sIf [2,3] (eTruth (eFn 2 n_2 (aCons (eVar 3) (aCons (eVar 2) aNil))))
   (sRet [0,1,3] (eOp eqD (ae_8 (e_8 1 (iOf (eVar 0)) (gC 4) (fun _=> .ok true) p_8)) (eVar 3)))
   sNil)
  (sRet [0,1,3] (eOp eqD (eCall k_2 (aCons (eFn 3 p_6 (aCons (eVar 0) (aCons (eVar 1) (aCons (eC (.int 0)) aNil)))) aNil)) (eFn 1 k_9 (aCons (eVar 3) aNil))))))
def n_3:List D→R W:=bodyD 4 y_9
def d_9:FS:=
  (sIf [0,1,3] (eTruth (eFn 3 n_3 (aCons (eVar 0) (aCons (eVar 3) (aCons (eVar 1) aNil)))))
   (sRetV 3)
   sNil)
def w_2:FS:=
  (sSeq (i_8 [2] (iArgs p_1 (aCons (eVar 2) aNil)) (gV 3) d_9)
  (sRet [] (eC .non)))
def o_2:List D→R W:=bodyD 4 w_2
def h_0:FT:=
  (eTest (eOp gtD (eCall k_2 (aCons (eVar 4) aNil)) (eC (.int 0))))
def e_6:FS:=
  (sSeq (bg_5 5 4)
  (sSeq (sSet 6 [1,2,5] (eFn 3 o_2 (aCons (eVar 5) (aCons (eVar 1) (aCons (eVar 2) aNil)))))
  (sSeq (sIf [6] (eTest (eOp (isND false) (eVar 6) (eC .non)))
   (q_2 "NoFit" "at" [3] (eCall k_2 (aCons (eVar 3) aNil)))
   sNil)
  (sSeq (sApp 3 (eVar 6))
  (sIf [1,5] (tNotF (eTruth (eFn 2 n_2 (aCons (eCall k_2 (aCons (eVar 5) aNil)) (aCons (eVar 1) aNil)))))
   (sSeq (sApp 4 (eFn 3 p_6 (aCons (eVar 5) (aCons (eVar 6) (aCons (eC (.int 1)) aNil)))))
  (sApp 4 (eFn 3 p_6 (aCons (eVar 5) (aCons (eVar 6) (aCons (eC (.int 0)) aNil))))))
   sNil)))))
def z_0:FS:=
  (sSeq (sSet 3 [] (eLst aNil))
  (sSeq (sSet 4 [0] (eLst (aCons (eVar 0) aNil)))
  (sSeq (h_2 [4] h_0 e_6 3000)
  (sRetV 3))))
def i_6:List D→R W:=bodyD 7 z_0
def ai_1:FS:=
  (sSet 1 [1,2] (eOp b_6 (eOp b_6 (eOp p_9 (eC (.int 40)) (eVar 1)) (eMeth "str" bf_9 (eC (.str "abcdefghijklmnopqrstuvwxyz0123456789-_ ")) (aCons (eVar 2) aNil))) (eC (.int 1))))
def bs_6:FS:=
  (sSeq (sSet 1 [] (eC (.int 0)))
  (sSeq (i_8 [0] (iOf (eVar 0)) (gV 2) ai_1)
  (sRetV 1)))
def af_5:List D→R W:=bodyD 3 bs_6
def am_4:FS:=
  (sSeq (sIf [0] (tNotF (eTruth (eFn 1 k_8 (aCons (eVar 0) aNil))))
   (q_2 "NoKey" "at" [] (eC (.int 0)))
   sNil)
  (sSeq (sIf [0] (eTruth (eIs "str" (eVar 0)))
   (sRet [0] (eOp b_6 (eOp p_9 (eC (.int 2)) (eFn 1 af_5 (aCons (eVar 0) aNil))) (eC (.int 1))))
   sNil)
  (sRet [0] (eOp p_9 (eC (.int 2)) (eVar 0)))))
def o_3:List D→R W:=bodyD 1 am_4
def u_8:FS:=
  (y_4 0 ["Halved"] "how_many" [1] (eVar 1))
def b_9:List D→R (List Str×List D):=ao_5 2 "Halved" u_8
def f_3:FE:=
  (eFn 1 o_3 (aCons (eVar 4) aNil))
def o_4:FS:=
  (sSeq (w_0 0 "Halved" [1] b_9 (eFn 1 c_4 (aCons (eVar 1) aNil)))
  (sSeq (y_4 0 ["Halved"] "leaf" [2] (eVar 2))
  (y_4 0 ["Halved"] "salts" [1,2,3] (eFn 3 i_6 (aCons (e_8 1 (iOf (eVar 1)) (gC 4) (fun _=> .ok true) f_3) (aCons (eVar 2) (aCons (eVar 3) aNil)))))))
def f_1:List D→R (List Str×List D):=ao_5 4 "Halved" o_4
def l_6:FS:=
  (sExpr [0,1,2] (aj_8 "Halved" 3 f_1 (aCons (eVar 0) (aCons (eVar 1) (aCons (eVar 2) aNil)))))
def af_6:FS:=
  (sSet 3 [4] (eLst (aCons (eC (.str "keys")) (aCons (eC (.int 0)) (aCons (eFn 1 k_7 (aCons (eVar 4) aNil)) aNil)))))
def af_7:FS:=
  (sSet 3 [4] (eLst (aCons (eC (.str "key")) (aCons (eAttr ["NoFit", "NoKey", "Twice"] "at" (eVar 4)) (aCons (eFn 1 k_7 (aCons (eVar 4) aNil)) aNil)))))
def af_8:FS:=
  (sSet 3 [4] (eLst (aCons (eC (.str "twice")) (aCons (eAttr ["NoFit", "NoKey", "Twice"] "at" (eVar 4)) (aCons (eFn 1 k_7 (aCons (eVar 4) aNil)) aNil)))))
def af_9:FS:=
  (sSet 3 [4] (eLst (aCons (eC (.str "fit")) (aCons (eAttr ["NoFit", "NoKey", "Twice"] "at" (eVar 4)) (aCons (eFn 1 k_7 (aCons (eVar 4) aNil)) aNil)))))
def s_2:FS:=
  (sSeq (sSet 3 [] (eC .non))
  (sSeq (aj_9 l_6 [⟨some 4, [("NoFit",false),("NoKey",false),("NoKeys",true),("Twice",false)],af_6⟩,⟨some 4, [("NoFit",false),("NoKey",true),("NoKeys",false),("Twice",false)],af_7⟩,⟨some 4, [("NoFit",false),("NoKey",false),("NoKeys",false),("Twice",true)],af_8⟩,⟨some 4, [("NoFit",true),("NoKey",false),("NoKeys",false),("Twice",false)],af_9⟩])
  (sRetV 3)))
def g_6:List D→R W:=bodyD 5 s_2
def j_5:FE:=
  (eFn 1 f_7 (aCons (eVar 8) aNil))
def s_9:FS:=
  (sSeq (sSet 3 [0] (eCall an_9 (aCons (eVar 0) aNil)))
  (sSeq (sSet 4 [0] (eFn 1 i_4 (aCons (eVar 0) aNil)))
  (sSeq (sIf [4] (eTest (eOp (isND false) (eVar 4) (eC .non)))
   (sSeq (sUnp (gP 6 7) [0,1,2] (eFn 4 (f_0 70) (aCons (e_8 1 (iOf (eVar 0)) (gC 8) (fun _=> .ok true) j_5) (aCons (eVar 1) (aCons (eVar 2) (aCons (eLst aNil) aNil))))))
  (sIf [6] (tNotF (eTruth (eVar 6)))
   (sSet 4 [7] (eLst (aCons (eC (.str "fit")) (aCons (eCall k_2 (aCons (eVar 7) aNil)) aNil))))
   sNil))
   sNil)
  (sSeq (sSet 5 [1,2,3] (eFn 3 g_6 (aCons (eVar 3) (aCons (eVar 1) (aCons (eVar 2) aNil)))))
  (sSeq (sIf [0,3,4,5] (tOrF (eTest (eOp neD (eVar 3) (eVar 0))) (tOrF (eTest (eOp (isND false) (eVar 5) (eC .non))) (eTest (eOp (isND false) (eVar 4) (eC .non)))))
   (sRet [0,3,4,5] (eAnd (eOp eqD (eVar 3) (eVar 0)) (eAnd (eOp (isND false) (eVar 5) (eC .non)) (eOp (isND false) (eVar 4) (eC .non)))))
   sNil)
  (sRet [4,5] (eAnd (eOp eqD (eVar 5) (eOp b_6 (eVar 4) (eLst (aCons (eC (.int 1)) aNil)))) (eNot (eIs "bool" (eOp ixD (eVar 5) (eC (.int 1))))))))))))
def d_0:List D→R W:=bodyD 8 s_9
def ap_2(S:List D→R W):FS:=
  (sSeq (sIf [0,1] (eTruth (eFn 2 n_2 (aCons (eVar 0) (aCons (eVar 1) aNil))))
   (sRet [] (eC (.int 1)))
   sNil)
  (sSeq (sSet 2 [0] (eFn 1 k_9 (aCons (eVar 0) aNil)))
  (sRet [0,1,2] (eOp b_6 (eOp b_6 (eC (.int 1)) (eFn 2 S (aCons (eVar 2) (aCons (eVar 1) aNil)))) (eFn 2 S (aCons (eOp subD (eVar 0) (eVar 2)) (aCons (eVar 1) aNil)))))))
def l_0:Nat→List D→R W
 |0=>fun _=> .no
 |n + 1=>bodyD 3 (ap_2 (l_0 n))
def z_1:FT:=
  (tNotF (eTruth (eFn 2 n_2 (aCons (eVar 3) (aCons (eFld ["Halved"] "leaf" (eVar 0)) aNil)))))
def z_2:FS:=
  (sSeq (sSet 6 [3] (eFn 1 k_9 (aCons (eVar 3) aNil)))
  (sIf [0,2,4] (eTest (eOp eqD (eFn 3 s_7 (aCons (eVar 2) (aCons (eOp ixD (eFld ["Halved"] "salts" (eVar 0)) (eVar 4)) (aCons (eC (.int 2)) aNil)))) (eC (.int 0))))
   (sSeq (sSet 4 [4] (eOp b_6 (eVar 4) (eC (.int 1))))
  (sSet 3 [6] (eVar 6)))
   (sSeq (sSet 4 [0,4,6] (eOp b_6 (eOp b_6 (eVar 4) (eC (.int 1))) (eFn 2 (l_0 70) (aCons (eVar 6) (aCons (eFld ["Halved"] "leaf" (eVar 0)) aNil)))))
  (sSeq (sSet 5 [5,6] (eOp b_6 (eVar 5) (eVar 6)))
  (sSet 3 [3,6] (eOp subD (eVar 3) (eVar 6)))))))
def s_3:FS:=
  (sSeq (sSet 2 [1] (eFn 1 o_3 (aCons (eVar 1) aNil)))
  (sSeq (sSet 3 [0] (eFld ["Halved"] "how_many" (eVar 0)))
  (sSeq (sSet 4 [] (eC (.int 0)))
  (sSeq (sSet 5 [] (eC (.int 0)))
  (sSeq (h_2 [0,3] z_1 z_2 3000)
  (sRet [0,2,3,4,5] (eOp b_6 (eVar 5) (eFn 3 s_7 (aCons (eVar 2) (aCons (eOp ixD (eFld ["Halved"] "salts" (eVar 0)) (eVar 4)) (aCons (eVar 3) aNil)))))))))))
def c_6:List D→R W:=bodyD 7 s_3
def ab_8:FS:=
  (sRet [0,1] (eCall minD (aCons (y_3 "number_of" 1 [("Halved",c_6)] (eVar 0) (aCons (eVar 1) aNil)) (aCons (eOp subD (eFld ["Halved"] "how_many" (eVar 0)) (eC (.int 1))) aNil))))
def e_0:List D→R W:=bodyD 2 ab_8
def ai_2:FE:=
  (y_3 "room" 1 [("Halved",e_0)] (eVar 0) (aCons (eVar 2) aNil))
def z_3:FS:=
  (sSeq (sExpr [1] (eFn 1 d_1 (aCons (eVar 1) aNil)))
  (sRet [0,1] (e_8 1 (iOf (eVar 1)) (gC 2) (fun _=> .ok true) ai_2)))
def f_2:List D→R W:=bodyD 2 z_3
def l_1:FS:=
  (sIf [1] (eTest (eOp eqD (eVar 1) (eC (.int 0))))
   (sExpr [0,2] (y_3 "room" 1 [("Halved",e_0)] (eVar 0) (aCons (eVar 2) aNil)))
   (sExpr [0,2,3] (y_3 "rooms" 1 [("Halved",f_2)] (eVar 0) (aCons (eOp b_6 (eOp b_6 (eOp b_6 (eVar 3) (eLst (aCons (eVar 2) aNil))) (eVar 3)) (eLst (aCons (eVar 2) aNil))) aNil))))
def z_4:FS:=
  (sSet 4 [5] (eLst (aCons (eAttr ["NoFit", "NoKey", "Twice"] "at" (eVar 5)) (aCons (eFn 1 k_7 (aCons (eVar 5) aNil)) aNil))))
def ag_0:FS:=
  (sSeq (sSet 4 [] (eC .non))
  (sSeq (aj_9 l_1 [⟨some 5, [("NoFit",false),("NoKey",true),("NoKeys",false),("Twice",false)],z_4⟩])
  (sRet [1,3,4] (eOp eqD (eVar 4) (eLst (aCons (eOp ixD (eLst (aCons (eC (.int 0)) (aCons (eCall k_2 (aCons (eVar 3) aNil)) aNil))) (eVar 1)) (aCons (eC (.int 1)) aNil)))))))
def i_9:List D→R W:=bodyD 6 ag_0
def am_5:FS:=
  (sSeq (sSet 6 [2,3] (eOp ixD (eLst (aCons (eVar 2) (aCons (eC (.int 0)) (aCons (eC (.int 0)) (aCons (eOp h_1 (eVar 2) (eC (.int 9))) aNil))))) (eVar 3)))
  (sSeq (sIf [3] (tOrF (eTest (eOp eqD (eVar 3) (eC (.int 1)))) (eTest (eOp eqD (eVar 3) (eC (.int 2)))))
   (sSet 6 [0,2,3] (eFn 2 g_1 (aCons (eOp ixD (eLst (aCons (eOp d_7 (eVar 2) (eC (.int 2147483647))) (aCons (eFn 2 g_3 (aCons (eVar 0) (aCons (eC (.int 1)) aNil))) aNil))) (eOp subD (eVar 3) (eC (.int 1)))) (aCons (eOp b_6 (eC (.int 7)) (eVar 3)) aNil))))
   sNil)
  (sSeq (sUnp (gP 8 9) [6] (eOp ixD (eLst (aCons (eTup (aCons (eOp b_6 (eC (.int 1)) (eOp d_7 (eOp h_1 (eVar 6) (eC (.int 7))) (eC (.int 6)))) (aCons (eOp b_6 (eC (.int 1)) (eOp d_7 (eOp h_1 (eVar 6) (eC (.int 42))) (eC (.int 3)))) aNil))) (aCons (eTup (aCons (eOp b_6 (eC (.int 1)) (eOp d_7 (eOp h_1 (eVar 6) (eC (.int 7))) (eC (.int 6)))) (aCons (eC (.int 60)) aNil))) aNil))) (eOp d_7 (eVar 6) (eC (.int 2)))))
  (sSeq (sSet 7 [1,6] (eFn 2 k_5 (aCons (eVar 1) (aCons (eOp h_1 (eVar 6) (eC (.int 64))) aNil))))
  (sIf [1,7,8,9] (tOrF (tNotF (eTruth (eFn 3 d_0 (aCons (eVar 7) (aCons (eVar 8) (aCons (eVar 9) aNil)))))) (tNotF (eTruth (eFn 3 d_0 (aCons (eVar 1) (aCons (eVar 8) (aCons (eVar 9) aNil)))))))
   (sRet [] (eC (.bl false)))
   sNil)))))
def am_6:FS:=
  (sIf [1,2,4,5] (tNotF (eTruth (eFn 4 i_9 (aCons (eVar 4) (aCons (eVar 5) (aCons (eFn 1 h_7 (aCons (eFn 2 g_1 (aCons (eOp d_7 (eVar 2) (eC (.int 2147483647))) (aCons (eVar 5) aNil))) aNil)) (aCons (eVar 1) aNil)))))))
   (sRet [] (eC (.bl false)))
   sNil)
def bb_0:FS:=
  (sSet 1 [0] (eFn 3 p_4 (aCons (eVar 0) (aCons (eC (.int 2)) (aCons (eC (.int 30)) aNil)))))
def bb_1:FS:=
  (sSet 2 [0] (eFn 2 i_3 (aCons (eVar 0) (aCons (eC (.int 1)) aNil))))
def bb_2:FS:=
  (i_8 [] (iArgs p_1 (aCons (eC (.int 4)) aNil)) (gV 3) am_5)
def bb_3:FS:=
  (sSet 4 [1,2] (aj_8 "Halved" 3 f_1 (aCons (eSlice (eVar 1) oNone (oSome (eC (.int 1)))) (aCons (eOp b_6 (eC (.int 1)) (eOp d_7 (eVar 2) (eC (.int 6)))) (aCons (eC (.int 1)) aNil)))))
def bb_4:FS:=
  (i_8 [] (iArgs p_1 (aCons (eC (.int 2)) aNil)) (gV 5) am_6)
def bs_7:FS:=
  (sRet [1] (eFn 3 d_0 (aCons (eVar 1) (aCons (eC (.int 1)) (aCons (eC (.int 1)) aNil)))))
def cq_4:FS:=
  (sSeq bb_0
  (sSeq bb_1
  (sSeq bb_2
  (sSeq bb_3
  (sSeq bb_4
  bs_7)))))
def cq_5:List D→R W:=bodyD 10 cq_4
end My
namespace L3
open PySem L2
def okD:Nat→D→Bool
 |_, .non=>true
 |_, .bl _=>true
 |_, .int _=>true
 |_, .str x=>x.cps.all (· < 0x110000)
 |n + 1, .lst ds=>ds.all (okD n)
 |n + 1, .tup ds=>ds.all (okD n)
 |_,_=>false
theorem cf_0:∀(n:Nat) (d:D),okD n d=true→(n_7 d).canLay0=true∧(n_7 d).depth≤n∧(n_7 d).eqv (n_7 d)=true:=by
 intro n
 induction n with
 |zero=>
  intro d h;cases d with
  |non=>exact⟨rfl,Nat.le_refl _,rfl⟩
  |bl b=>exact⟨rfl,Nat.le_refl _,by cases b <;> rfl⟩
  |int i=>exact⟨rfl,Nat.le_refl _,by show(i ==i)=true;simp⟩
  |str x=>exact⟨h,Nat.le_refl _,by show(x ==x)=true;simp⟩
  |_=>cases h
 |succ n ih=>
  have all:∀ds:List D,ds.all (okD n)=true→PyData.canLayAll0 (k_1 ds)=true∧PyData.depthAll (k_1 ds)≤n∧PyData.eqvAll (k_1 ds) (k_1 ds)=true:=by
   intro ds
   induction ds with
   |nil=>intro _;exact⟨rfl,Nat.zero_le _,rfl⟩
   |cons d ds ih2=>
    intro h;rw [List.all_cons,Bool.and_eq_true] at h;obtain⟨a1,a2,a3⟩:=ih d h.1;obtain⟨b1,b2,b3⟩:=ih2 h.2;refine⟨?_, ?_, ?_⟩
    ·show(PyData.canLay0 (n_7 d) && PyData.canLayAll0 (k_1 ds))=true;rw [a1,b1];rfl
    ·show max (PyData.depth (n_7 d)) (PyData.depthAll (k_1 ds))≤n;exact Nat.max_le.mpr ⟨a2,b2⟩
    ·show(PyData.eqv (n_7 d) (n_7 d) && PyData.eqvAll (k_1 ds) (k_1 ds))=true;rw [a3,b3];rfl
  intro d h;cases d with
  |non=>exact⟨rfl,Nat.zero_le _,rfl⟩
  |bl b=>exact⟨rfl,Nat.zero_le _,by cases b <;> rfl⟩
  |int i=>exact⟨rfl,Nat.zero_le _,by show(i ==i)=true;simp⟩
  |str x=>exact⟨h,Nat.zero_le _,by show(x ==x)=true;simp⟩
  |lst ds=>
   obtain⟨b1,b2,b3⟩:=all ds h;exact⟨b1,Nat.succ_le_succ b2,b3⟩
  |tup ds=>
   obtain⟨b1,b2,b3⟩:=all ds h;exact⟨b1,Nat.succ_le_succ b2,b3⟩
  |_=>cases h
theorem bi_9{n:Nat}{d:D}(h:okD n d=true)(hn:n≤60):eqC d d=true∧eqvD d d=true:=by
 obtain⟨a1,a2,a3⟩:=cf_0 n d h;refine⟨?_,a3⟩;unfold eqC;rw [a1,decide_eq_true (Nat.le_trans a2 hn)];rfl
theorem ap_3{d:D}(n:Nat)(h:okD n d=true)(hn:n≤60:=by decide):eqD d d= .ok (.sh (.bl true)):=by
 obtain⟨h1,h2⟩:=bi_9 h hn;unfold eqD
 split
 ·simp
 ·rw [if_pos h1,h2]
theorem cf_1{d:D}(n:Nat)(h:okD n d=true)(hn:n≤60:=by decide):neD d d= .ok (.sh (.bl false)):=by
 obtain⟨h1,h2⟩:=bi_9 h hn;unfold neD
 split
 ·simp
 ·rw [if_pos h1,h2];rfl
theorem av_8{α:Type}(f:α→Int):∀l:List α,y_2 (l.map fun a=>D.int (f a))=some (l.map f)
 | []=>rfl
 |a::l=>by
  show(y_2 (l.map fun a=>D.int (f a))).map (f a:: ·)=_;rw [av_8 f l];rfl
theorem db_5{n i:Nat}(h:i < n):ixN n (i:Int)=some i:=by
 unfold ixN;rw [if_pos (by omega),if_pos (by omega)];simp
theorem m_0{α:Type}{xs:List α}{i:Nat}{x:α}(h:xs[i]? =some x):atI xs (i:Int)=some x:=by
 unfold atI;rw [db_5 (List.getElem?_eq_some_iff.mp h).1];exact h
end L3
namespace My
open PySem L2 L3
theorem cf_2{α:Type}(l:List α)(a:Nat)(h:a≤l.length):q_1 l none (some (a:Int))=l.take a:=by
 unfold q_1;have e1:HT.sIx l.length 0 none=0:=rfl;have e2:HT.sIx l.length l.length (some (a:Int))=a:=by
  show(if(a:Int) < 0 then((a:Int) + (l.length:Int)).toNat else min (a:Int).toNat l.length)=a;rw [if_neg (by omega)];omega
 rw [e1,e2,List.drop_zero,Nat.sub_zero]
def mixZ(c k:Int):Int:=((c + 1) * (48271 + 118 * k) % 2147483629 / 977 * 16807 + (c + 1) * (48271 + 118 * k) % 2147483629 * (k * k + 7) + k) % 2147483587
theorem z_5(c k:Int)(h1: -1000≤k)(h2:k≤1000):g_1 [.int c, .int k]= .ok (.sh (.int (mixZ c k))):=by
 have hk: -18446744073709551616 < k * k + 7∧k * k + 7 < 18446744073709551616:=by
  have:k * k≤1000 * 1000:=by
   rcases Int.le_total 0 k with h|h
   ·exact Int.mul_le_mul h2 h2 h (by decide)
   ·have:(-k) * (-k)≤1000 * 1000:=Int.mul_le_mul (by omega) (by omega) (by omega) (by decide)
    rwa [Int.neg_mul_neg] at this
  have:0≤k * k:=by
   rcases Int.le_total 0 k with h|h
   ·exact Int.mul_nonneg h h
   ·have:=Int.mul_nonneg (a:= -k) (b:= -k) (by omega) (by omega)
    rwa [Int.neg_mul_neg] at this
  omega
 have m1:mulC 118 k=true:=t_5 (by decide) (by decide);have m2:mulC (c + 1) (48271 + 118 * k)=true:=ac_9 (by omega) (by omega);have m3:∀z:Int,mulC z 16807=true:=fun z=>ac_9 (by decide) (by decide);have m4:mulC k k=true:=t_5 (by omega) (by omega);have m5:∀z:Int,mulC z (k * k + 7)=true:=fun z=>ac_9 hk.1 hk.2
 simp_arith [g_1,av_5,evs,k_3 m1,k_3 m2,k_3 (m3 _),k_3 m4,k_3 (m5 _),f_5,j_6 (show(0:Int) < 977 by decide) (by decide),e_3 (show(0:Int) < 2147483629 by decide),e_3 (show(0:Int) < 2147483587 by decide)]
 rfl
theorem ai_3(ns:List Int)(k:Int)(h:0≤k):i_3 [.lst (ns.map .int), .int k]= .ok (.sh (.int (ns.getD k.toNat 0))):=by
 simp_arith [i_3,av_4,evs,c_9,ab_6,List.length_map]
 by_cases hk:k < (ns.length:Int)
 ·have e:atI (ns.map D.int) k=some (.int (ns.getD k.toNat 0)):=by
   apply az_3 h;rw [List.getElem?_map];have:k.toNat < ns.length:=by omega
   simp [List.getD,this]
  simp_arith [hk,decide_true,if_true,g_8 e,evs]
 ·simp_arith [hk,decide_false,evs]
  have:ns.length≤k.toNat:=by omega
  simp [List.getD,this]
theorem bb_5(ns:List Int)(k:Int)(h:0≤k)(h2:k≤500):∃z,g_3 [.lst (ns.map .int), .int k]= .ok (.sh (.int z)):=by
 refine⟨mixZ (ns.getD k.toNat 0 % 2147483647) (k + 101), ?_⟩
 simp_arith [g_3,ap_0,evs,ai_3 ns k h,e_3 (show(0:Int) < 2147483647 by decide),f_5,z_5 _ (k + 101) (by omega) (by omega)]
theorem cf_3(c:Int):∃z,k_4 [.int c]= .ok (.sh (.int z)):=by
 have m:∀z:Int,mulC z 2147483587=true:=fun z=>ac_9 (by decide) (by decide);refine⟨(mixZ c 1 * 2147483587 + mixZ c 2) * 2147483587 + mixZ c 3, ?_⟩
 simp_arith [k_4,ak_0,evs,z_5 c 1 (by decide) (by decide),z_5 c 2 (by decide) (by decide),z_5 c 3 (by decide) (by decide),k_3 (m _),f_5]
theorem cf_4(ns:List Int)(s m:Int)(hn:ns.length≤63)(h0:0≤s)(h1:s≤60)(h2:1≤m)(h3:m≤200):
  ∃cs:List Int,(cs.length:Int)≤m∧m_7 [.lst (ns.map .int), .int s, .int m]= .ok (.ow (.lst (cs.map .int))):=by
 obtain⟨z0,hz0⟩:=bb_5 ns 0 (by decide) (by decide)
 by_cases hp:ns.getD (0:Int).toNat 0 % 2=0
 ·obtain⟨cs,hl,hc⟩:=cq_0 (fg:=gC 5) (p:=fun _=> .ok true) (f:=eFn 2 i_3 (aCons (eVar 0) (aCons (eOp b_6 (eVar 1) (eVar 5)) aNil)))
   (δ:= [some (.lst (ns.map .int)),some (.int s),some (.int m),some (.int (max 0 ((ns.length:Int) - s))),none,none]) (min m (max 0 ((ns.length:Int) - s))).toNat 0 (fun k hk=>
    ⟨[some (.lst (ns.map .int)),some (.int s),some (.int m),some (.int (max 0 ((ns.length:Int) - s))),none,some (.int (0 + (k:Int)))],_,rfl,rfl,by
     simp_arith [evs,f_5,ai_3 ns (s + (0 + (k:Int))) (by omega)]
     rfl⟩)
  refine⟨cs,by rw [hl];omega, ?_⟩;have e1:=j_2 (m:=1) (fi:=iArgs p_1 (aCons (eCall minD (aCons (eVar 2) (aCons (eVar 3) aNil))) aNil)) (fg:=gC 5) (p:=fun _=> .ok true) (f:=eFn 2 i_3 (aCons (eVar 0) (aCons (eOp b_6 (eVar 1) (eVar 5)) aNil)))
   (δ:= [some (.lst (ns.map .int)),some (.int s),some (.int m),some (.int (max 0 ((ns.length:Int) - s))),none]) (ds:=d_8 0 (min m (max 0 ((ns.length:Int) - s))).toNat) (rs:=cs.map .int) (by
    simp_arith [evs,cd_9,af_0 (show -4611686018427387903≤min m (max 0 ((ns.length:Int) - s)) by omega) (by omega)]) (by rw [p_0];omega) hc
  simp_arith [m_7,y_7,t_6,t_7,evs,c_9,List.length_map,ad_0,az_2,ai_3 ns 0 (by decide),e_3 (show(0:Int) < 2 by decide),e_4,hp,e1]
 ·have hmm:=fun k:Int=>Int.emod_nonneg k (show m≠0 by omega);have hml:=fun k:Int=>Int.emod_lt_of_pos k (show 0 < m by omega);have bu:∀k:Nat,∃z,g_3 [.lst (ns.map .int), .int (s + (0 + (k:Int)) % max 1 (max 0 ((ns.length:Int) - s)))]= .ok (.sh (.int z)):=fun k=>by
   have b1:=Int.emod_nonneg (0 + (k:Int)) (show max 1 (max 0 ((ns.length:Int) - s))≠0 by omega);have b2:=Int.emod_lt_of_pos (0 + (k:Int)) (show 0 < max 1 (max 0 ((ns.length:Int) - s)) by omega);exact bb_5 ns _ (by omega) (by omega)
  have b0:=hmm z0;have b1:=hml z0;obtain⟨cs,hl,hc⟩:=cq_0 (fg:=gC 5) (p:=fun _=> .ok true) (f:=eFn 1 k_4 (aCons (eFn 2 g_1 (aCons (eFn 2 g_3 (aCons (eVar 0) (aCons (eOp b_6 (eVar 1) (eOp d_7 (eVar 5) (eCall maxD (aCons (eC (.int 1)) (aCons (eVar 3) aNil))))) aNil))) (aCons (eVar 5) aNil))) aNil))
   (δ:= [some (.lst (ns.map .int)),some (.int s),some (.int m),some (.int (max 0 ((ns.length:Int) - s))),some (.int (min m (max (max 0 ((ns.length:Int) - s)) (1 + z0 % m)))),none]) (min m (max (max 0 ((ns.length:Int) - s)) (1 + z0 % m))).toNat 0 (fun k hk=>by
    obtain⟨zc,hzc⟩:=bu k;obtain⟨zg,hzg⟩:=cf_3 (mixZ zc (0 + (k:Int)));refine⟨[some (.lst (ns.map .int)),some (.int s),some (.int m),some (.int (max 0 ((ns.length:Int) - s))),some (.int (min m (max (max 0 ((ns.length:Int) - s)) (1 + z0 % m)))),some (.int (0 + (k:Int)))],zg,rfl,rfl, ?_⟩
    simp_arith [evs,f_5,az_2,e_3 (show 0 < max 1 (max 0 ((ns.length:Int) - s)) by omega),hzc,z_5 zc (0 + (k:Int)) (by omega) (by omega),hzg])
  refine⟨cs,by rw [hl];omega, ?_⟩;have e1:=j_2 (m:=1) (fi:=iArgs p_1 (aCons (eVar 4) aNil)) (fg:=gC 5) (p:=fun _=> .ok true) (f:=eFn 1 k_4 (aCons (eFn 2 g_1 (aCons (eFn 2 g_3 (aCons (eVar 0) (aCons (eOp b_6 (eVar 1) (eOp d_7 (eVar 5) (eCall maxD (aCons (eC (.int 1)) (aCons (eVar 3) aNil))))) aNil))) (aCons (eVar 5) aNil))) aNil))
   (δ:= [some (.lst (ns.map .int)),some (.int s),some (.int m),some (.int (max 0 ((ns.length:Int) - s))),some (.int (min m (max (max 0 ((ns.length:Int) - s)) (1 + z0 % m))))]) (ds:=d_8 0 (min m (max (max 0 ((ns.length:Int) - s)) (1 + z0 % m))).toNat) (rs:=cs.map .int) (by
    simp_arith [evs,af_0 (show -4611686018427387903≤min m (max (max 0 ((ns.length:Int) - s)) (1 + z0 % m)) by omega) (by omega)]) (by rw [p_0];omega) hc
  simp_arith [m_7,y_7,t_6,t_7,evs,c_9,List.length_map,ad_0,az_2,cd_9,f_5,ai_3 ns 0 (by decide),e_3 (show(0:Int) < 2 by decide),e_3 (show(0:Int) < m by omega),e_4,hp,hz0,e1]
theorem a_7{g h:FS}{Δ Δ':SE}(e:g Δ= .nx Δ'):sSeq g h Δ=h Δ':=by unfold sSeq;rw [e]
def mkS(l:List Nat):Str:=⟨l.toArray⟩
theorem l_2(l:List Nat):(mkS l).cps.toList=l:=by simp [mkS]
theorem j_9(l:List Nat):(mkS l).length=l.length:=by rw [br_8,l_2]
theorem bs_8(a b:List Nat):mkS a ++ mkS b=mkS (a ++ b):=br_7 (by rw [cm_6,l_2,l_2,l_2])
def sgL:List Nat:= [97,98,99,100,101,102,103,104,105,106,107,108,109,110,111,112,113,114,115,116,117,118,119,120,121,122,48,49,50,51,52,53,54,55,56,57,45,95,32]
theorem cn_4:(Str.ofString "abcdefghijklmnopqrstuvwxyz0123456789-_ ").cps.toList=sgL:=by decide +kernel
def isKey(d:D):Prop:=(∃n:Int,d= .int n∧0≤n∧n≤999999999999999999)∨(∃l:List Nat,d= .str (mkS l)∧l.length≤11∧∀c∈l,c∈sgL)
theorem isKey.flat{d:D}(h:isKey d):flatD d=true:=by
 rcases h with⟨n,rfl,_⟩|⟨l,rfl,_⟩ <;> rfl
theorem db_6(r:Int):∃c∈sgL,ixD (.str "abcdefghijklmnopqrstuvwxyz0123456789-_ ") (.int (r % 39))= .ok (.sh (.str (mkS [c]))):=by
 have h0:=Int.emod_nonneg r (show(39:Int)≠0 by decide);have h1:=Int.emod_lt_of_pos r (show(0:Int) < 39 by decide);have hl:(r % 39).toNat < sgL.length:=by show(r % 39).toNat < 39;omega
 refine⟨sgL[(r % 39).toNat],List.getElem_mem hl,br_9 (by decide +kernel) ?_⟩;rw [cn_4];exact az_3 h0 (List.getElem?_eq_getElem hl)
theorem cf_5(z:Int):∃d,isKey d∧m_8 [.int z]= .ok (.sh d):=by
 have d3:=j_6 (i:=z) (show(0:Int) < 3 by decide) (by decide);have m3:=e_3 (i:=z) (show(0:Int) < 3 by decide);have p18:=ah_7 (u_3 (i:=10) (j:=18) (by decide) (by decide) (by decide) (by decide));have e18:(10:Int) ^ (18:Int).toNat=1000000000000000000:=by decide
 rw [e18] at p18;have:z % 3=0∨z % 3=2∨z % 3=1:=by omega
 rcases this with h|h|h
 ·refine⟨.int (z / 3 % 1000000000000000000), .inl ⟨_,rfl,by omega,by omega⟩, ?_⟩
  simp_arith [m_8,ab_0,evs,d3,m3,e_4,h,p18,e_3 (show(0:Int) < 1000000000000000000 by decide)]
 ·refine⟨.int (z / 3 % 50), .inl ⟨_,rfl,by omega,by omega⟩, ?_⟩;have n0:¬(2:Int)=0:=by decide
  simp_arith [m_8,ab_0,evs,d3,m3,e_4,h,n0,e_3 (show(0:Int) < 50 by decide)]
 ·have n0:¬(1:Int)=0:=by decide
  have n2:¬(1:Int)=2:=by decide
  have b0:=Int.emod_nonneg (z / 3) (show(12:Int)≠0 by decide);have b1:=Int.emod_lt_of_pos (z / 3) (show(0:Int) < 12 by decide);obtain⟨Δ',e,l,r,a5,rfl,hl,hc⟩:=bx_2 (gV 5) y_8 (fun k Δ=>∃(l:List Nat) (r:Int) (a5:Sl),Δ= [.sh (.int z), .sh (.str "abcdefghijklmnopqrstuvwxyz0123456789-_ "), .sh (.int r), .sh (.str (mkS l)), .sh (.int (z / 3 % 12)),a5]∧l.length=k∧∀c∈l,c∈sgL)
   (n:=(z / 3 % 12).toNat) (lo:=0) (Δ:= [.sh (.int z), .sh (.str "abcdefghijklmnopqrstuvwxyz0123456789-_ "), .sh (.int (z / 3)), .sh (.str ""), .sh (.int (z / 3 % 12)), .no]) ⟨[],z / 3, .no,rfl,rfl,fun c hc=>absurd hc (by simp)⟩ (fun k Δ hk hI=>by
   obtain⟨l,r,a5,rfl,hl,hc⟩:=hI;obtain⟨q,q0,q1,eq⟩:∃q:Int,0 < q∧q < 100∧eOp ixD (eLst (aCons (eC (.int 12)) (aCons (eC (.int 39)) aNil))) (eCall ab_5 (aCons (eOp gtD (eVar 5) (eC (.int 0))) aNil)) [some (.int z),some (.str "abcdefghijklmnopqrstuvwxyz0123456789-_ "),some (.int r),some (.str (mkS l)),some (.int (z / 3 % 12)),some (.int (0 + (k:Int)))]= .ok (.sh (.int q)):=by
    by_cases hk0:(0:Int) < 0 + (k:Int)
    ·refine⟨39,by decide,by decide, ?_⟩
     simp_arith [evs,x_0,hk0,ab_5]
     rfl
    ·refine⟨12,by decide,by decide, ?_⟩
     simp_arith [evs,x_0,hk0,ab_5]
     rfl
   obtain⟨c,hcs,ec⟩:=db_6 (r / q);have zk:(mkS l).length + (mkS [c]).length≤16777216:=by rw [j_9,j_9];simp;omega
   refine⟨_,rfl, [.sh (.int z), .sh (.str "abcdefghijklmnopqrstuvwxyz0123456789-_ "), .sh (.int (r / q)), .sh (.str (mkS (l ++ [c]))), .sh (.int (z / 3 % 12)), .sh (.int (0 + (k:Int)))], .inl ?_,_,_,_,rfl,by simp [hl], ?_⟩
   ·simp only [y_8];rw [a_7 (Δ':= [.sh (.int z), .sh (.str "abcdefghijklmnopqrstuvwxyz0123456789-_ "), .sh (.int (r / q)), .sh (.str (mkS l)), .sh (.int (z / 3 % 12)), .sh (.int (0 + (k:Int)))])]
    ·simp_arith [evs,e_3 (show(0:Int) < 39 by decide),ec,cd_8 zk,bs_8]
    ·have:=eq;unfold sSet;simp only [vsh,List.map_cons,List.map_nil,ce_0,List.set_cons_succ,List.set_cons_zero,gV] at this⊢;have e9:eOp h_1 (eVar 2) (eOp ixD (eLst (aCons (eC (.int 12)) (aCons (eC (.int 39)) aNil))) (eCall ab_5 (aCons (eOp gtD (eVar 5) (eC (.int 0))) aNil))) [some (.int z),some (.str "abcdefghijklmnopqrstuvwxyz0123456789-_ "),some (.int r),some (.str (mkS l)),some (.int (z / 3 % 12)),some (.int (0 + (k:Int)))]= .ok (.sh (.int (r / q))):=by
      show((eVar 2 _).bind fun a=>(eOp ixD _ _ _).bind fun b=>h_1 a.d b.d)=_;rw [this]
      simp_arith [evs,j_6 q0 (show q < 1361129467683753853853498429727072845824 by omega)]
     rw [e9]
   ·intro d hd;rcases List.mem_append.mp hd with hd|hd
    ·exact hc d hd
    ·have:d=c:=by simpa using hd
     rw [this];exact hcs)
  refine⟨.str (mkS l), .inr ⟨l,rfl,by omega,hc⟩, ?_⟩
  simp_arith [m_8,ab_0,evs,d3,m3,e_4,h,n0,n2,e_3 (show(0:Int) < 12 by decide),i_8,af_0 (show -4611686018427387903≤z / 3 % 12 by omega) (by omega),e]
theorem bs_9{a b:D}(ha:isKey a)(hb:isKey b):eqF a b=true↔a=b:=by
 rcases ha with⟨n,rfl,_⟩|⟨l,rfl,_⟩ <;> rcases hb with⟨m,rfl,_⟩|⟨k,rfl,_⟩
 ·show(n ==m)=true↔_;rw [beq_iff_eq];exact⟨fun h=>by rw [h],fun h=>by injection h⟩
 ·show false=true↔_;exact⟨fun h=>(by cases h),fun h=>(by cases h)⟩
 ·show false=true↔_;exact⟨fun h=>(by cases h),fun h=>(by cases h)⟩
 ·show(mkS l ==mkS k)=true↔_;rw [beq_iff_eq];exact⟨fun h=>by rw [h],fun h=>by injection h⟩
theorem bt_0{d:D}{ks:List D}(hd:isKey d)(hk:∀k∈ks,isKey k):x_8 d ks=true↔d∈ks:=by
 unfold x_8;rw [List.any_eq_true];constructor
 ·rintro ⟨y,hy,h⟩
  rw [←(bs_9 (hk y hy) hd).mp h];exact hy
 ·intro h;exact⟨d,h,(bs_9 hd hd).mpr rfl⟩
theorem bj_0{ks:List D}(hk:∀k∈ks,isKey k):ks.all flatD=true:=List.all_eq_true.mpr fun k h=>(hk k h).flat
theorem cf_6{d:D}{ks:List D}(hd:isKey d)(hk:∀k∈ks,isKey k):inD true d (.lst ks)= .ok (.sh (.bl (!x_8 d ks))):=by
 have h:(flatD d && ks.all flatD)=true:=by rw [hd.flat,bj_0 hk];rfl
 rcases hd with⟨n,rfl,_⟩|⟨l,rfl,_⟩
 ·exact if_pos h
 ·exact if_pos h
theorem cn_5{d:D}(h:isKey d):PyData.canLay0 (n_7 d)=true∧PyData.depth (n_7 d)=0:=by
 rcases h with⟨n,rfl,_⟩|⟨l,rfl,_,hc⟩
 ·exact⟨rfl,rfl⟩
 ·refine⟨?_,rfl⟩;show(mkS l).cps.all (· < 0x110000)=true;rw [←Array.all_toList,l_2,List.all_eq_true];intro c h;have:c∈sgL:=hc c h;have:∀c∈sgL,c < 0x110000:=by decide
  exact decide_eq_true (this c (hc c h))
theorem ag_1:∀{ks:List D},(∀k∈ks,isKey k)→PyData.canLayAll0 (k_1 ks)=true∧PyData.depthAll (k_1 ks)=0
 | [],_=>⟨rfl,rfl⟩
 |k::ks,h=>by
  obtain⟨a1,a2⟩:=cn_5 (h k List.mem_cons_self);obtain⟨b1,b2⟩:=ag_1 fun x hx=>h x (List.mem_cons_of_mem _ hx);refine⟨?_, ?_⟩
  ·show(PyData.canLay0 (n_7 k) && PyData.canLayAll0 (k_1 ks))=true;rw [a1,b1];rfl
  ·show max (PyData.depth (n_7 k)) (PyData.depthAll (k_1 ks))=0;rw [a2,b2];rfl
theorem bj_1{ks js:List D}(hk:∀k∈ks,isKey k)(hj:∀k∈js,isKey k):eqC (.lst ks) (.lst js)=true:=by
 unfold eqC;rw [Bool.and_eq_true,Bool.and_eq_true];refine⟨⟨(ag_1 hk).1,(ag_1 hj).1⟩,decide_eq_true ?_⟩;show PyData.depthAll (k_1 ks) + 1≤60;rw [(ag_1 hk).2];decide
theorem cn_6{a b:D}(ha:isKey a)(hb:isKey b):PyData.eqv (n_7 a) (n_7 b)=true↔a=b:=by
 rcases ha with⟨n,rfl,_⟩|⟨l,rfl,_⟩ <;> rcases hb with⟨m,rfl,_⟩|⟨k,rfl,_⟩
 ·show(n ==m)=true↔_;rw [beq_iff_eq];exact⟨fun h=>by rw [h],fun h=>by injection h⟩
 ·show false=true↔_;exact⟨fun h=>(by cases h),fun h=>(by cases h)⟩
 ·show false=true↔_;exact⟨fun h=>(by cases h),fun h=>(by cases h)⟩
 ·show(mkS l ==mkS k)=true↔_;rw [beq_iff_eq];exact⟨fun h=>by rw [h],fun h=>by injection h⟩
theorem bj_2:∀{ks js:List D},(∀k∈ks,isKey k)→(∀k∈js,isKey k)→(PyData.eqvAll (k_1 ks) (k_1 js)=true↔ks=js)
 | [], [],_,_=>⟨fun _=>rfl,fun _=>rfl⟩
 | [],_::_,_,_=>⟨fun h=>(by cases h),fun h=>(by cases h)⟩
 |_::_, [],_,_=>⟨fun h=>(by cases h),fun h=>(by cases h)⟩
 |k::ks,j::js,hk,hj=>by
  show(PyData.eqv (n_7 k) (n_7 j) && PyData.eqvAll (k_1 ks) (k_1 js))=true↔_;rw [Bool.and_eq_true,cn_6 (hk k List.mem_cons_self) (hj j List.mem_cons_self),bj_2 (fun x hx=>hk x (List.mem_cons_of_mem _ hx)) (fun x hx=>hj x (List.mem_cons_of_mem _ hx))];exact⟨fun⟨a,b⟩=>by rw [a,b],fun h=>by injection h with a b;exact⟨a,b⟩⟩
theorem cn_7(a b:List D):eqD (.lst a) (.lst b)=if eqC (.lst a) (.lst b)=true then .ok (.sh (.bl (eqvD (.lst a) (.lst b)))) else .no:=rfl
theorem cn_8(a b:List D):neD (.lst a) (.lst b)=if eqC (.lst a) (.lst b)=true then .ok (.sh (.bl (!eqvD (.lst a) (.lst b)))) else .no:=rfl
theorem ap_5{ks js:List D}(hk:∀k∈ks,isKey k)(hj:∀k∈js,isKey k):∃b:Bool,(b=true↔ks=js)∧eqD (.lst ks) (.lst js)= .ok (.sh (.bl b))∧neD (.lst ks) (.lst js)= .ok (.sh (.bl (!b))):=by
 refine⟨eqvD (.lst ks) (.lst js),bj_2 hk hj, ?_, ?_⟩
 ·rw [cn_7,if_pos (bj_1 hk hj)]
 ·rw [cn_8,if_pos (bj_1 hk hj)]
theorem cn_9(ns:List Int)(s m:Int)(hn:ns.length≤63)(h0:0≤s)(h1:s≤60)(h2:1≤m)(h3:m≤200):
  ∃ks:List D,ks≠ []∧(ks.length:Int)≤m∧(∀k∈ks,isKey k)∧ks.Nodup∧p_4 [.lst (ns.map .int), .int s, .int m]= .ok (.ow (.lst ks)):=by
 obtain⟨cs,hc,ec⟩:=cf_4 ns s m hn h0 h1 h2 h3;obtain⟨Δ',e,ks,a4,a5,rfl,hl,hk,hd⟩:=j_4 (gV 4) r_1 (fun k Δ=>∃(ks:List D) (a4 a5:Sl),Δ= [.sh (.lst (ns.map .int)), .sh (.int s), .sh (.int m), .ow (.lst ks),a4,a5]∧ks.length≤k∧(∀k∈ks,isKey k)∧ks.Nodup)
  (ds:=cs.map .int) (Δ:= [.sh (.lst (ns.map .int)), .sh (.int s), .sh (.int m), .ow (.lst []), .no, .no]) ⟨[], .no, .no,rfl,Nat.le_refl _,fun k hk=>absurd hk (by simp),List.nodup_nil⟩ (fun k d Δ hk hI=>by
  obtain⟨ks,a4,a5,rfl,hl,hks,hd⟩:=hI;rw [List.getElem?_map] at hk;cases q:cs[k]? with
  |none=>rw [q] at hk;cases hk
  |some c=>
   rw [q] at hk;cases hk;have hkl:k < cs.length:=(List.getElem?_eq_some_iff.mp q).1;obtain⟨d,hdk,ed⟩:=cf_5 c;have hl2:ks.length < 16777216:=by omega
   have hni:=cf_6 hdk hks;cases hm:x_8 d ks with
   |true=>
    refine⟨_,rfl, [.sh (.lst (ns.map .int)), .sh (.int s), .sh (.int m), .ow (.lst ks), .sh (.int c), .sh d], .inl ?_,ks,_,_,rfl,by omega,hks,hd⟩;rw [hm] at hni
    simp_arith [r_1,evs,ed,hni]
   |false=>
    refine⟨_,rfl, [.sh (.lst (ns.map .int)), .sh (.int s), .sh (.int m), .ow (.lst (ks ++ [d])), .sh (.int c), .sh d], .inl ?_,ks ++ [d],_,_,rfl,by simp;omega, ?_, ?_⟩
    ·rw [hm] at hni
     simp_arith [r_1,evs,ed,hni,sApp,hl2]
    ·intro x hx;rcases List.mem_append.mp hx with hx|hx
     ·exact hks x hx
     ·have:x=d:=by simpa using hx
      rw [this];exact hdk
    ·rw [List.nodup_append];refine⟨hd,by simp,fun a ha b hb=> ?_⟩;have:b=d:=by simpa using hb
     subst this
     rintro rfl
     rw [(bt_0 hdk hks).mpr ha] at hm;cases hm)
 rw [List.length_map] at hl;obtain⟨b,hb,eb,_⟩:=ap_5 hk (js:= []) (fun k hk=>absurd hk (by simp))
 by_cases hz:ks= []
 ·obtain⟨d,hdk,ed⟩:=cf_5 (ns.getD (0:Int).toNat 0 / 2);refine⟨[d],by simp,by simp;omega,fun x hx=> ?_,by simp, ?_⟩
  ·have:x=d:=by simpa using hx
   rw [this];exact hdk
  ·have:b=true:=hb.mpr hz;subst this
   simp_arith [p_4,ad_1,evs,i_8,ec,e,eb,ai_3 ns 0 (by decide),j_6 (show(0:Int) < 2 by decide) (by decide),ed]
 ·refine⟨ks,hz,by omega,hk,hd, ?_⟩;have:b=false:=by
   cases b with
   |true=>exact absurd (hb.mp rfl) hz
   |false=>rfl
  subst this
  simp_arith [p_4,ad_1,evs,i_8,ec,e,eb]
def sgI(c:Nat):Nat:=sgL.idxOf c
theorem bo_0:∀c∈sgL,Builtin.Str.occurrences "abcdefghijklmnopqrstuvwxyz0123456789-_ " ⟨#[c]⟩ 0 (Str.length "abcdefghijklmnopqrstuvwxyz0123456789-_ ") 1= [sgI c]:=by decide +kernel
def w_3(l:List Nat):Int:=l.foldl (fun a c=>40 * a + (sgI c:Int) + 1) 0
theorem ak_3(l:List Nat)(k c:Nat)(h:l[k]? =some c):w_3 (l.take (k + 1))=40 * w_3 (l.take k) + (sgI c:Int) + 1:=by
 unfold w_3;rw [List.take_add_one,h,List.foldl_append];rfl
def g_0:D→Int
 | .int n=>2 * n
 | .str x=>2 * w_3 x.cps.toList + 1
 |_=>0
theorem cf_7:∀c∈sgL,Txt.find "abcdefghijklmnopqrstuvwxyz0123456789-_ " ⟨#[c]⟩=((sgI c:Nat):Int):=by decide +kernel
theorem co_0{c:Nat}(h:c∈sgL):bf_9 (.str "abcdefghijklmnopqrstuvwxyz0123456789-_ ") [.str ⟨#[c]⟩]= .ok (.sh (.int (sgI c:Int))):=by
 show R.ok (W.sh (D.int (Txt.find "abcdefghijklmnopqrstuvwxyz0123456789-_ " ⟨#[c]⟩)))=_;rw [cf_7 c h]
theorem cf_8{c:Nat}(h:c∈sgL):ac_8 (.str "abcdefghijklmnopqrstuvwxyz0123456789-_ ") [.str ⟨#[c]⟩]= .ok (.sh (.int (sgI c:Int))):=by
 show(match Builtin.Str.occurrences "abcdefghijklmnopqrstuvwxyz0123456789-_ " ⟨#[c]⟩ 0 (Str.length "abcdefghijklmnopqrstuvwxyz0123456789-_ ") 1 with
  |i::_=>R.ok (W.sh (D.int (i:Nat)))
  | []=>R.no)=_
 rw [bo_0 c h]
theorem db_7{c:Nat}(h:c∈sgL):inD false (.str ⟨#[c]⟩) (.str "abcdefghijklmnopqrstuvwxyz0123456789-_ ")= .ok (.sh (.bl true)):=by
 show R.ok (W.sh (D.bl (!(Builtin.Str.occurrences "abcdefghijklmnopqrstuvwxyz0123456789-_ " ⟨#[c]⟩ 0 (Str.length "abcdefghijklmnopqrstuvwxyz0123456789-_ ") 1).isEmpty)))=_;rw [bo_0 c h];rfl
theorem j_3(l:List Nat):q_5 (mkS l)=l.map fun c=> .str ⟨#[c]⟩:=by unfold q_5;rw [l_2]
theorem cf_9(l:List Nat)(hl:l.length≤11)(hc:∀c∈l,c∈sgL):af_5 [.str (mkS l)]= .ok (.sh (.int (w_3 l))):=by
 obtain⟨Δ',e,a2,rfl⟩:=j_4 (gV 2) ai_1 (fun k Δ=>∃a2,Δ= [.sh (.str (mkS l)), .sh (.int (w_3 (l.take k))),a2]) (ds:=q_5 (mkS l)) (Δ:= [.sh (.str (mkS l)), .sh (.int 0), .no]) ⟨.no,rfl⟩ (fun k d Δ hk hI=>by
  obtain⟨a2,rfl⟩:=hI;rw [j_3,List.getElem?_map] at hk;cases q:l[k]? with
  |none=>rw [q] at hk;cases hk
  |some c=>
   rw [q] at hk;cases hk;refine⟨_,rfl, [.sh (.str (mkS l)), .sh (.int (w_3 (l.take (k + 1)))), .sh (.str ⟨#[c]⟩)], .inl ?_,_,rfl⟩;rw [ak_3 l k c q]
   simp_arith [ai_1,evs,k_3 (t_5 (show(-18446744073709551616:Int) < 40 by decide) (by decide)),beq_self_eq_true,co_0 (hc c (List.mem_of_getElem? q)),f_5])
 rw [j_3,List.length_map,List.take_length] at e
 simp_arith [af_5,bs_6,evs,i_8,j_3,e]
theorem ai_4{d:D}(h:isKey d):k_8 [d]= .ok (.sh (.bl true)):=by
 rcases h with⟨n,rfl,h0,h1⟩|⟨l,rfl,hl,hc⟩
 ·simp_arith [k_8,u_7,evs,t_2,s_6,h0,h1]
 ·have hx:(mkS l).length≤16777216:=by rw [j_9];omega
  have ec:=r_8 (fg:=gC 1) (f:=g_4) (δ:= [some (.str (mkS l)),none]) (fun _=> .bl true) (q_5 (mkS l)) (fun d hd=>by
   rw [j_3] at hd;obtain⟨c,hcl,rfl⟩:=List.mem_map.mp hd;exact⟨_, .sh (.bl true),rfl,by simp_arith [g_4,evs,db_7 (hc c hcl)],rfl⟩)
  have ec':=j_2 (m:=1) (fi:=iOf (eVar 0)) (fg:=gC 1) (p:=fun _=> .ok true) (f:=g_4) (δ:= [some (.str (mkS l))]) (by simp_arith [evs]) (by rw [j_3,List.length_map];omega) ec;have ha:allD [.lst ((q_5 (mkS l)).map fun _=>D.bl true)]= .ok (.sh (.bl true)):=by
   have hb:∀l:List D,y_1 (l.map fun _=>D.bl true)=some (l.map fun _=>true):=by
    intro l
    induction l with
    |nil=>rfl
    |cons a l ih=>show(y_1 (l.map fun _=>D.bl true)).map (true:: ·)=_;rw [ih];rfl
   unfold allD;simp only [hb]
   congr 3
   rw [List.all_eq_true];intro b hb';obtain⟨_,_,rfl⟩:=List.mem_map.mp hb';rfl
  have cf:((mkS l).length:Int)≤11:=by rw [j_9];omega
  have et:g_9 [.str (mkS l)]= .ok (.sh (.bl true)):=by
   simp_arith [g_9,p_7,evs,u_4 hx,s_6,cf,ec',ha]
  simp_arith [k_8,u_7,evs,et]
theorem cg_0{d:D}(h:isKey d):o_3 [d]= .ok (.sh (.int (g_0 d))):=by
 have hk:=ai_4 h;have m2:=fun j:Int=>k_3 (t_5 (j:=j) (show(-18446744073709551616:Int) < 2 by decide) (by decide));rcases h with⟨n,rfl,h0,h1⟩|⟨l,rfl,hl,hc⟩
 ·simp_arith [o_3,am_4,evs,hk,m2,g_0]
 ·simp_arith [o_3,am_4,evs,hk,cf_9 l hl hc,m2,f_5,g_0,l_2]
def j_0(n s z:Int):Int:=
 (((1 + (1103515245 * s + 12345) % (2305843009213693951 - 1)) * n + (69069 * s * s + 7 * s) % 2305843009213693951) % 2305843009213693951 + ((1 + (1103515245 * s + 12345) % (2305843009213693951 - 1)) * n + (69069 * s * s + 7 * s) % 2305843009213693951) % 2305843009213693951 / 2147483648) % z
theorem ag_2(n s z:Int)(h1: -18446744073709551616 < s)(h2:s < 18446744073709551616)(hz:0 < z):s_7 [.int n, .int s, .int z]= .ok (.sh (.int (j_0 n s z)))∧n_0 [.int n, .int s, .int z]= .ok (.sh (.int (j_0 n s z))):=by
 have n0:¬z=0:=by omega
 have f0:=Int.emod_nonneg (1103515245 * s + 12345) (show(2305843009213693951 - 1:Int)≠0 by decide);have f1:=Int.emod_lt_of_pos (1103515245 * s + 12345) (show(0:Int) < 2305843009213693951 - 1 by decide);have a1:=k_3 (t_5 (i:=1103515245) (j:=s) (by decide) (by decide));have a2:=k_3 (t_5 (i:=69069) (j:=s) (by decide) (by decide));have a3:=k_3 (ac_9 (i:=69069 * s) (j:=s) h1 h2);have a4:=k_3 (t_5 (i:=7) (j:=s) (by decide) (by decide));have a5:=k_3 (t_5 (i:=1 + (1103515245 * s + 12345) % (2305843009213693951 - 1)) (j:=n) (by omega) (by omega));have c1:=fun i:Int=>e_3 (i:=i) (show(0:Int) < 2305843009213693951 - 1 by decide);have c2:=fun i:Int=>e_3 (i:=i) (show(0:Int) < 2305843009213693951 by decide);have c3:=fun i:Int=>e_3 (i:=i) hz;have c4:=fun i:Int=>j_6 (i:=i) (show(0:Int) < 2147483648 by decide) (by decide);refine⟨?_, ?_⟩
 ·simp_arith [s_7,bs_5,evs,e_4,n0,ad_0,f_5,a1,a2,a3,a4,c1,c2,a5,c4,c3]
  rfl
 ·simp_arith [n_0,ak_1,evs,ad_0,f_5,a1,a2,a3,a4,c1,c2,a5,c4,c3]
  rfl
end My
namespace L3
open PySem L2
def outF:Fl→Bool
 | .ex _ _=>true
 | .rt _=>true
 | .no=>true
 |_=>false
theorem s_4(fg:FG)(g:FS)(I:Nat→SE→Prop){ds:List D}{Δ:SE}{n:Nat}{r:Fl}{d:D}(h0:I 0 Δ)(hd:ds[n]? =some d)
  (step:∀k d Δ,k < n→ds[k]? =some d→I k Δ→∃Δ1,fg d Δ= .ok Δ1∧∃Δ2,(g Δ1= .nx Δ2∨g Δ1= .ct Δ2)∧I (k + 1) Δ2)
  (last:∀Δ,I n Δ→∃Δ1,fg d Δ= .ok Δ1∧g Δ1=r) (hr:outF r=true):j_1 fg g ds Δ=r:=by
 have all:∀(m k:Nat) (Δ:SE),k + m=n→I k Δ→j_1 fg g (ds.drop k) Δ=r:=by
  intro m
  induction m with
  |zero=>
   intro k Δ e h;have:k=n:=by omega
   subst this;have hl:k < ds.length:=(List.getElem?_eq_some_iff.mp hd).1;obtain⟨x,d1,d2⟩:=y_0 hl;rw [hd] at d1;cases d1;obtain⟨Δ1,e1,e2⟩:=last Δ h;rw [d2];show(match fg d Δ with
    | .ok Δ1=>(match g Δ1 with
     | .nx Δ2=>j_1 fg g (ds.drop (k + 1)) Δ2
     | .ct Δ2=>j_1 fg g (ds.drop (k + 1)) Δ2
     | .bk Δ2=> .nx Δ2
     |r=>r)
    | .ex _=> .no
    | .no=> .no)=_
   rw [e1];simp only [e2];cases r with
   |nx _=>cases hr
   |ct _=>cases hr
   |bk _=>cases hr
   |_=>rfl
  |succ m ih=>
   intro k Δ e h;have hl:n < ds.length:=(List.getElem?_eq_some_iff.mp hd).1;obtain⟨x,d1,d2⟩:=y_0 (l:=ds) (i:=k) (by omega);obtain⟨Δ1,e1,Δ2,e2,h2⟩:=step k x Δ (by omega) d1 h;have e3:=ih (k + 1) Δ2 (by omega) h2;rw [d2];show(match fg x Δ with
    | .ok Δ1=>(match g Δ1 with
     | .nx Δ2=>j_1 fg g (ds.drop (k + 1)) Δ2
     | .ct Δ2=>j_1 fg g (ds.drop (k + 1)) Δ2
     | .bk Δ2=> .nx Δ2
     |r=>r)
    | .ex _=> .no
    | .no=> .no)=_
   rw [e1];rcases e2 with e2|e2
   ·simp only [e2];exact e3
   ·simp only [e2];exact e3
 have:=all n 0 Δ (by omega) h0
 rwa [List.drop_zero] at this
theorem u_9:∀{ds:List D} {k i:Nat} {d:D},ds[i]? =some d→(i_5 k ds)[i]? =some (.tup [.int ((k + i:Nat):Int),d])
 | [],_,_,_,h=>by simp at h
 |x::ds,k,0,d,h=>by simp at h;subst h;rfl
 |x::ds,k,i + 1,d,h=>by
  have:=u_9 (ds:=ds) (k:=k + 1) (i:=i) (d:=d) (by simpa using h);show(i_5 (k + 1) ds)[i]? =_;rw [this,show k + 1 + i=k + (i + 1) by omega]
end L3
namespace My
open PySem L2 L3
def x_1(d:D):Prop:=(∃n:Int,d= .int n∧(n < 0∨999999999999999999 < n))∨(∃l:List Nat,d= .str (mkS l)∧l.length≤100∧(11 < l.length∨∃c∈l,∃b,inD false (.str ⟨#[c]⟩) (.str "abcdefghijklmnopqrstuvwxyz0123456789-_ ")= .ok (.sh (.bl b))∧b=false))
def inB(c:Nat):Bool:= !(Builtin.Str.occurrences "abcdefghijklmnopqrstuvwxyz0123456789-_ " ⟨#[c]⟩ 0 (Str.length "abcdefghijklmnopqrstuvwxyz0123456789-_ ") 1).isEmpty
theorem in_B(c:Nat):inD false (.str ⟨#[c]⟩) (.str "abcdefghijklmnopqrstuvwxyz0123456789-_ ")= .ok (.sh (.bl (inB c))):=rfl
theorem ap_6:∀l:List Nat,y_1 (l.map fun c=>D.bl (inB c))=some (l.map inB)
 | []=>rfl
 |a::l=>by
  show(y_1 (l.map fun c=>D.bl (inB c))).map (inB a:: ·)=_;rw [ap_6 l];rfl
theorem av_9{d:D}(h:x_1 d):k_8 [d]= .ok (.sh (.bl false)):=by
 rcases h with⟨n,rfl,h⟩|⟨l,rfl,hl,h⟩
 ·by_cases h0:0≤n
  ·have h1:¬n≤999999999999999999:=by omega
   simp_arith [k_8,u_7,evs,t_2,s_6,h0,h1]
  ·simp_arith [k_8,u_7,evs,t_2,s_6,h0]
 ·have hx:(mkS l).length≤16777216:=by rw [j_9];omega
  have et:g_9 [.str (mkS l)]= .ok (.sh (.bl false)):=by
   by_cases h11:((mkS l).length:Int)≤11
   ·have hin:∃c∈l,inB c=false:=by
     rcases h with h|⟨c,hc,b,e,hb⟩
     ·rw [j_9] at h11;omega
     ·refine⟨c,hc, ?_⟩;rw [in_B] at e;subst hb;injection e with e
      injection e with e
      injection e
    have ec:=r_8 (fg:=gC 1) (f:=g_4) (δ:= [some (.str (mkS l)),none]) (fun d=>match d with| .str x=> .bl (inB (x.cps.toList.headD 0))|d=>d) (q_5 (mkS l)) (fun d hd=>by
     rw [j_3] at hd;obtain⟨c,hcl,rfl⟩:=List.mem_map.mp hd;exact⟨_, .sh (.bl (inB c)),rfl,by simp_arith [g_4,evs,in_B c],rfl⟩)
    have ec':=j_2 (m:=1) (fi:=iOf (eVar 0)) (fg:=gC 1) (p:=fun _=> .ok true) (f:=g_4) (δ:= [some (.str (mkS l))]) (by simp_arith [evs]) (by rw [j_3,List.length_map];omega) ec;have em:(q_5 (mkS l)).map (fun d=>match d with| .str x=>D.bl (inB (x.cps.toList.headD 0))|d=>d)=l.map fun c=>D.bl (inB c):=by
     rw [j_3,List.map_map];rfl
    rw [em] at ec';have ha:allD [.lst (l.map fun c=>D.bl (inB c))]= .ok (.sh (.bl false)):=by
     unfold allD;simp only [ap_6]
     congr 3
     obtain⟨c,hc,e⟩:=hin;cases q:(l.map inB).all id with
     |false=>rfl
     |true=>
      have:=List.all_eq_true.mp q (inB c) (List.mem_map.mpr ⟨c,hc,rfl⟩);rw [e] at this;cases this
    simp_arith [g_9,p_7,evs,u_4 hx,s_6,h11,ec',ha]
   ·simp_arith [g_9,p_7,evs,u_4 hx,s_6,h11]
  simp_arith [k_8,u_7,evs,et]
def kOf:D→Key
 | .int i=> .inl i
 | .str x=> .inr x
 |_=> .inl 0
theorem bj_3{d:D}(h:isKey d):keyD d=some (kOf d):=by
 rcases h with⟨n,rfl,_⟩|⟨l,rfl,_⟩ <;> rfl
theorem bt_1{a b:D}(ha:isKey a)(hb:isKey b)(e:kOf a=kOf b):a=b:=by
 rcases ha with⟨n,rfl,_⟩|⟨l,rfl,_⟩ <;> rcases hb with⟨m,rfl,_⟩|⟨k,rfl,_⟩
 ·injection e with e;rw [e]
 ·cases e
 ·cases e
 ·injection e with e;rw [e]
def j_7(n:Nat):Xn:=⟨"NoKey", ["at"], [.int (n:Int)]⟩
def bb_6(n:Nat):Xn:=⟨"Twice", ["at"], [.int (n:Int)]⟩
theorem bt_2{ks:List D}(hk:∀k∈ks,isKey k):d_1 [.lst ks]= .ok (.sh .non):=by
 obtain⟨Δ',e,a1,a2,rfl⟩:=j_4 (gV2 1 2) g_2 (fun k Δ=>∃a1 a2,Δ= [.sh (.lst ks),a1,a2]) (ds:=i_5 0 ks) (Δ:= [.sh (.lst ks), .no, .no]) ⟨_,_,rfl⟩ (fun k d Δ hd hI=>by
  obtain⟨a1,a2,rfl⟩:=hI;obtain⟨d',e1,rfl⟩:=p_3 hd;refine⟨_,rfl,_, .inl ?_, .sh (.int ((0 + k:Nat):Int)), .sh d',rfl⟩
  simp_arith [g_2,evs,ai_4 (hk d' (List.mem_of_getElem? e1))])
 simp_arith [d_1,q_3,evs,i_8,r_7,ao_3,e]
theorem bj_4{l:List D}{d:D}{r:List D}(hk:∀k∈l,isKey k)(hd:x_1 d):d_1 [.lst (l ++ d::r)]= .ex (j_7 l.length):=by
 have e:=s_4 (gV2 1 2) g_2 (fun k Δ=>∃a1 a2,Δ= [.sh (.lst (l ++ d::r)),a1,a2]) (ds:=i_5 0 (l ++ d::r)) (Δ:= [.sh (.lst (l ++ d::r)), .no, .no]) (n:=l.length) (r:= .ex (j_7 l.length) [.sh (.lst (l ++ d::r)), .sh (.int (l.length:Int)), .sh d])
  (d:= .tup [.int ((0 + l.length:Nat):Int),d]) ⟨_,_,rfl⟩ (u_9 (by simp)) (fun k d' Δ hkl hd' hI=>by
   obtain⟨a1,a2,rfl⟩:=hI;obtain⟨x,e1,rfl⟩:=p_3 hd';rw [List.getElem?_append_left hkl] at e1;refine⟨_,rfl,_, .inl ?_, .sh (.int ((0 + k:Nat):Int)), .sh x,rfl⟩
   simp_arith [g_2,evs,ai_4 (hk x (List.mem_of_getElem? e1))]) (fun Δ hI=>by
   obtain⟨a1,a2,rfl⟩:=hI;refine⟨_,rfl, ?_⟩
   simp_arith [g_2,evs,av_9 hd,q_2,j_7]) rfl
 simp_arith [d_1,q_3,evs,i_8,r_7,ao_3,e]
def q_6(ks:List D):List (Key×D):=ks.map fun d=>(kOf d, .bl true)
theorem bj_5{ks:List D}{d:D}(hk:∀k∈ks,isKey k)(hd:isKey d):hasA (q_6 ks) (kOf d)=true↔d∈ks:=by
 unfold hasA valA q_6;rw [Option.isSome_map,List.find?_isSome];constructor
 ·rintro ⟨p,hp,e⟩
  obtain⟨x,hx,rfl⟩:=List.mem_map.mp hp;have:kOf x=kOf d:=by simpa using e
  rw [←bt_1 (hk x hx) hd this];exact hx
 ·intro h;exact⟨(kOf d, .bl true),List.mem_map.mpr ⟨d,h,rfl⟩,by simp⟩
theorem cg_2{ks:List D}{d:D}(hk:∀k∈ks,isKey k)(hd:isKey d)(n:d∉ks):putA (q_6 ks) (kOf d) (.bl true)=q_6 (ks ++ [d]):=by
 unfold putA;have h:((q_6 ks).any fun kv=>decide (kv.1=kOf d))=false:=by
  cases q:(q_6 ks).any fun kv=>decide (kv.1=kOf d) with
  |false=>rfl
  |true=>
   exfalso;obtain⟨p,hp,e⟩:=List.any_eq_true.mp q;obtain⟨x,hx,rfl⟩:=List.mem_map.mp hp;have:kOf x=kOf d:=by simpa using e
   have:=bt_1 (hk x hx) hd this;subst this;exact n hx
 rw [h];unfold q_6;rw [List.map_append];rfl
theorem ak_4{ks:List D}{l:List D}{d:D}{k:Nat}(hl:∀x∈l,isKey x)(hd:isKey d)(n:d∉l)(hn:l.length < 16777216):
  g_5 [.sh (.lst ks), .ow (.dic (q_6 l)), .sh (.int (k:Int)), .sh d]= .nx [.sh (.lst ks), .ow (.dic (q_6 (l ++ [d]))), .sh (.int (k:Int)), .sh d]:=by
 have h:hasA (q_6 l) (kOf d)=false:=by
  cases q:hasA (q_6 l) (kOf d) with
  |false=>rfl
  |true=>exact absurd ((bj_5 hl hd).mp q) n
 have hs:(q_6 l).length < 16777216:=by unfold q_6;rw [List.length_map];exact hn
 simp_arith [g_5,evs,inK,bj_3 hd,h,br_5,hs,cg_2 hl hd n]
theorem by_0{ks:List D}(hk:∀k∈ks,isKey k)(nd:ks.Nodup)(hl:ks.length < 16777216):h_8 [.lst ks]= .ok (.sh .non):=by
 obtain⟨Δ',e,a2,a3,rfl⟩:=j_4 (gV2 2 3) g_5 (fun k Δ=>∃a2 a3,Δ= [.sh (.lst ks), .ow (.dic (q_6 (ks.take k))),a2,a3]) (ds:=i_5 0 ks) (Δ:= [.sh (.lst ks), .ow (.dic []), .no, .no]) ⟨_,_,rfl⟩ (fun k d Δ hd hI=>by
  obtain⟨a2,a3,rfl⟩:=hI;obtain⟨d',e1,rfl⟩:=p_3 hd;have hlt:k < ks.length:=(List.getElem?_eq_some_iff.mp e1).1;have nin:d'∉ks.take k:=fun hm=>by
   obtain⟨j,hj,e⟩:=List.getElem_of_mem hm;rw [List.length_take] at hj;rw [List.getElem_take] at e;have:=List.pairwise_iff_getElem.mp nd j k (by omega) hlt (by omega);rw [e] at this;rw [List.getElem?_eq_getElem hlt] at e1;injection e1 with e1
   exact this e1.symm
  refine⟨_,rfl,_, .inl (ak_4 (k:=0 + k) (fun x hx=>hk x (List.mem_of_mem_take hx)) (hk d' (List.mem_of_getElem? e1)) nin (by rw [List.length_take];omega)), .sh (.int ((0 + k:Nat):Int)), .sh d', ?_⟩;rw [List.take_add_one,e1];rfl)
 have e':j_1 (gV2 2 3) g_5 (i_5 0 ks) [.sh (.lst ks), .ow (.dic []), .no, .no]=_:=e
 simp_arith [h_8,t_9,evs,br_4,i_8,r_7,ao_3,e']
theorem bo_1{l:List D}{d:D}(hk:∀k∈l,isKey k)(nd:l.Nodup)(hl:l.length < 16777216)(hd:d∈l)(r:List D):h_8 [.lst (l ++ d::r)]= .ex (bb_6 l.length):=by
 have hdk:=hk d hd;have e:=s_4 (gV2 2 3) g_5 (fun k Δ=>∃a2 a3,Δ= [.sh (.lst (l ++ d::r)), .ow (.dic (q_6 (l.take k))),a2,a3]) (ds:=i_5 0 (l ++ d::r)) (Δ:= [.sh (.lst (l ++ d::r)), .ow (.dic []), .no, .no]) (n:=l.length)
  (r:= .ex (bb_6 l.length) [.sh (.lst (l ++ d::r)), .ow (.dic (q_6 l)), .sh (.int (l.length:Int)), .sh d]) (d:= .tup [.int ((0 + l.length:Nat):Int),d]) ⟨_,_,rfl⟩ (u_9 (by simp)) (fun k d' Δ hkl hd' hI=>by
   obtain⟨a2,a3,rfl⟩:=hI;obtain⟨x,e1,rfl⟩:=p_3 hd';rw [List.getElem?_append_left hkl] at e1;have nin:x∉l.take k:=fun hm=>by
    obtain⟨j,hj,e⟩:=List.getElem_of_mem hm;rw [List.length_take] at hj;rw [List.getElem_take] at e;have:=List.pairwise_iff_getElem.mp nd j k (by omega) hkl (by omega);rw [e] at this;rw [List.getElem?_eq_getElem hkl] at e1;injection e1 with e1
    exact this e1.symm
   refine⟨_,rfl,_, .inl (ak_4 (k:=0 + k) (fun y hy=>hk y (List.mem_of_mem_take hy)) (hk x (List.mem_of_getElem? e1)) nin (by rw [List.length_take];omega)), .sh (.int ((0 + k:Nat):Int)), .sh x, ?_⟩;rw [List.take_add_one,e1];rfl) (fun Δ hI=>by
   obtain⟨a2,a3,rfl⟩:=hI;refine⟨_,rfl, ?_⟩;rw [List.take_length]
   simp_arith [g_5,evs,inK,bj_3 hdk,(bj_5 hk hdk).mpr hd,q_2,bb_6]) rfl
 simp_arith [h_8,t_9,evs,br_4,i_8,r_7,ao_3,e]
theorem co_1{ks:List D}(hk:∀k∈ks,isKey k)(nd:ks.Nodup)(h1:1≤ks.length)(h2:ks.length≤200):c_4 [.lst ks]= .ok (.sh (.int (ks.length:Int))):=by
 have c1:¬(ks.length:Int)=0:=by omega
 have c2:¬(200:Int) < (ks.length:Int):=by omega
 simp_arith [c_4,n_1,evs,c_9,e_4,c1,x_0,c2,bt_2 hk,by_0 hk nd (by omega)]
theorem co_2{l:List D}{d:D}{r:List D}(hk:∀k∈l,isKey k)(hd:x_1 d)(h2:l.length + r.length < 200):c_4 [.lst (l ++ d::r)]= .ex (j_7 l.length):=by
 have zk:((l ++ d::r).length:Int)=(l.length:Int) + (r.length:Int) + 1:=by simp;omega
 have c1:¬((l ++ d::r).length:Int)=0:=by omega
 have c2:¬(200:Int) < ((l ++ d::r).length:Int):=by omega
 simp_arith [c_4,n_1,evs,c_9,e_4,c1,x_0,c2,bj_4 hk hd,exG]
def badT(d:D):Prop:=x_1 d∧okD 0 d=true
def n_4(d:D):Prop:=isKey d∨badT d
theorem db_8:∀c∈sgL,c < 0x110000:=by decide
theorem cg_4{d:D}(h:n_4 d):okD 0 d=true:=by
 rcases h with(⟨n,rfl,_⟩|⟨l,rfl,_,hc⟩)|h
 ·rfl
 ·show(mkS l).cps.all (· < 0x110000)=true;rw [←Array.all_toList,l_2,List.all_eq_true];intro c h;exact decide_eq_true (db_8 c (hc c h))
 ·exact h.2
theorem by_1{xs:List D}(h:∀d∈xs,n_4 d):okD 1 (.lst xs)=true:=by
 show xs.all (okD 0)=true;rw [List.all_eq_true];exact fun d hd=>cg_4 (h d hd)
theorem cx_2{c:Nat}(h:c∈sgL):inD true (.str ⟨#[c]⟩) (.str "abcdefghijklmnopqrstuvwxyz0123456789-_ ")= .ok (.sh (.bl false)):=by
 show R.ok (W.sh (D.bl (!!(Builtin.Str.occurrences "abcdefghijklmnopqrstuvwxyz0123456789-_ " ⟨#[c]⟩ 0 (Str.length "abcdefghijklmnopqrstuvwxyz0123456789-_ ") 1).isEmpty)))=_;rw [bo_0 c h];rfl
theorem bt_3(c:Nat):inD true (.str ⟨#[c]⟩) (.str "abcdefghijklmnopqrstuvwxyz0123456789-_ ")= .ok (.sh (.bl (!inB c))):=rfl
theorem by_2{c:Nat}(h:inB c=true):∃z:Int,ac_8 (.str "abcdefghijklmnopqrstuvwxyz0123456789-_ ") [.str ⟨#[c]⟩]= .ok (.sh (.int z)):=by
 unfold inB at h;show∃z:Int,(match Builtin.Str.occurrences "abcdefghijklmnopqrstuvwxyz0123456789-_ " ⟨#[c]⟩ 0 (Str.length "abcdefghijklmnopqrstuvwxyz0123456789-_ ") 1 with
  |i::_=>R.ok (W.sh (D.int (i:Nat)))
  | []=>R.no)=_
 cases e:Builtin.Str.occurrences "abcdefghijklmnopqrstuvwxyz0123456789-_ " ⟨#[c]⟩ 0 (Str.length "abcdefghijklmnopqrstuvwxyz0123456789-_ ") 1 with
 |nil=>rw [e] at h;cases h
 |cons i r=>exact⟨(i:Int),rfl⟩
theorem w_4{d:D}(h:isKey d):f_7 [d]= .ok (.sh (.int (g_0 d))):=by
 have m2:=fun j:Int=>k_3 (t_5 (j:=j) (show(-18446744073709551616:Int) < 2 by decide) (by decide));have p18:=ah_7 (u_3 (i:=10) (j:=18) (by decide) (by decide) (by decide) (by decide));have e18:(10:Int) ^ (18:Int).toNat=1000000000000000000:=by decide
 rw [e18] at p18;rcases h with⟨n,rfl,h0,h1⟩|⟨l,rfl,hl,hc⟩
 ·have c1:n < 1000000000000000000:=by omega
  have x1:ixD (.lst [.non, .int (2 * n)]) (.int 1)= .ok (.sh (.int (2 * n))):=g_8 (m_0 (i:=1) rfl);have i1:ab_5 [.bl true]= .ok (.sh (.int 1)):=rfl
  simp_arith [f_7,m_9,evs,m2,g_0,p18,t_2,s_6,ab_6,h0,c1,decide_true,i1,x1]
 ·have hx:(mkS l).length≤16777216:=by rw [j_9];omega
  have cf:¬(11:Int) < ((mkS l).length:Int):=by rw [j_9];omega
  obtain⟨Δ',e,a2,rfl⟩:=j_4 (gV 2) e_5 (fun k Δ=>∃a2,Δ= [.sh (.str (mkS l)), .sh (.int (w_3 (l.take k))),a2]) (ds:=q_5 (mkS l)) (Δ:= [.sh (.str (mkS l)), .sh (.int 0), .no]) ⟨.no,rfl⟩ (fun k d Δ hk hI=>by
   obtain⟨a2,rfl⟩:=hI;rw [j_3,List.getElem?_map] at hk;cases q:l[k]? with
   |none=>rw [q] at hk;cases hk
   |some c=>
    rw [q] at hk;cases hk;refine⟨_,rfl, [.sh (.str (mkS l)), .sh (.int (w_3 (l.take (k + 1)))), .sh (.str ⟨#[c]⟩)], .inl ?_,_,rfl⟩;rw [ak_3 l k c q,Int.mul_comm 40]
    simp_arith [e_5,evs,cx_2 (hc c (List.mem_of_getElem? q)),u_4 hx,x_0,cf,decide_false,k_3 (ac_9 (show(-18446744073709551616:Int) < 40 by decide) (by decide)),beq_self_eq_true,cf_8 (hc c (List.mem_of_getElem? q)),f_5])
  rw [j_3,List.length_map,List.take_length] at e
  simp_arith [f_7,m_9,evs,i_8,j_3,e,m2,f_5,g_0,l_2]
theorem by_3(l:List Nat)(h:∃c∈l,inB c=false):∃(n:Nat) (c:Nat),l[n]? =some c∧inB c=false∧∀k a,k < n→l[k]? =some a→inB a=true:=by
 induction l with
 |nil=>obtain⟨c,hc,_⟩:=h;simp at hc
 |cons x l ih=>
  cases q:inB x with
  |false=>exact⟨0,x,rfl,q,fun k a hk=>absurd hk (Nat.not_lt_zero k)⟩
  |true=>
   obtain⟨n,c,h1,h2,h3⟩:=ih (by
    obtain⟨c,hc,hb⟩:=h;rcases List.mem_cons.mp hc with rfl|hc
    ·rw [q] at hb;cases hb
    ·exact⟨c,hc,hb⟩)
   refine⟨n + 1,c,h1,h2,fun k a hk ha=> ?_⟩;cases k with
   |zero=>simp only [List.getElem?_cons_zero,Option.some.injEq] at ha;rw [←ha];exact q
   |succ k=>exact h3 k a (by omega) (by simpa using ha)
theorem bb_7{d:D}(h:x_1 d):f_7 [d]= .ok (.sh .non):=by
 have m2:=fun j:Int=>k_3 (t_5 (j:=j) (show(-18446744073709551616:Int) < 2 by decide) (by decide));have p18:=ah_7 (u_3 (i:=10) (j:=18) (by decide) (by decide) (by decide) (by decide));have e18:(10:Int) ^ (18:Int).toNat=1000000000000000000:=by decide
 rw [e18] at p18;rcases h with⟨n,rfl,h0⟩|⟨l,rfl,hl,hc⟩
 ·have x0:ixD (.lst [.non, .int (2 * n)]) (.int 0)= .ok (.sh .non):=g_8 (m_0 (i:=0) rfl);have i0:ab_5 [.bl false]= .ok (.sh (.int 0)):=rfl
  by_cases c0:0≤n
  ·have c1:¬n < 1000000000000000000:=by omega
   simp_arith [f_7,m_9,evs,m2,p18,t_2,s_6,ab_6,c0,c1,decide_true,decide_false,i0,x0]
  ·simp_arith [f_7,m_9,evs,m2,p18,t_2,s_6,ab_6,c0,decide_false,i0,x0]
 ·have hx:(mkS l).length≤16777216:=by rw [j_9];omega
  have key:j_1 (gV 2) e_5 (l.map fun c=> .str ⟨#[c]⟩) [.sh (.str (mkS l)), .sh (.int 0), .no]= .rt (.sh .non):=by
   by_cases hb:11 < l.length
   ·have hb':(11:Int) < ((mkS l).length:Int):=by rw [j_9];omega
    obtain⟨c,hc0⟩:∃c,l[0]? =some c:=⟨_,List.getElem?_eq_getElem (by omega)⟩;refine s_4 (gV 2) e_5 (fun _ Δ=>Δ= [.sh (.str (mkS l)), .sh (.int 0), .no]) (n:=0) (d:= .str ⟨#[c]⟩) rfl (by rw [List.getElem?_map,hc0];rfl) (fun k d Δ hk=>absurd hk (Nat.not_lt_zero k)) (fun Δ hI=> ?_) rfl;subst hI;refine⟨_,rfl, ?_⟩;cases q:inB c with
    |true=>simp_arith [e_5,evs,bt_3,q,u_4 hx,x_0,hb',decide_true,Bool.not_true]
    |false=>simp_arith [e_5,evs,bt_3,q,Bool.not_false]
   ·have hb':¬(11:Int) < ((mkS l).length:Int):=by rw [j_9];omega
    obtain⟨n,c,g1,g2,g3⟩:=by_3 l (by
     rcases hc with z|⟨c,hc,b,eb,hb⟩
     ·exact absurd z hb
     ·refine⟨c,hc, ?_⟩;rw [in_B] at eb;subst hb;injection eb with eb;injection eb with eb;injection eb)
    refine s_4 (gV 2) e_5 (fun _ Δ=>∃(z:Int) (a2:Sl),Δ= [.sh (.str (mkS l)), .sh (.int z),a2]) (n:=n) (d:= .str ⟨#[c]⟩) ⟨_,_,rfl⟩ (by rw [List.getElem?_map,g1];rfl) (fun k d Δ hk hd hI=> ?_) (fun Δ hI=> ?_) rfl
    ·obtain⟨z,a2,rfl⟩:=hI;rw [List.getElem?_map] at hd;cases q:l[k]? with
     |none=>rw [q] at hd;cases hd
     |some a=>
      rw [q] at hd;cases hd;have ha:=g3 k a hk q;obtain⟨y,hy⟩:=by_2 ha;refine⟨_,rfl, [.sh (.str (mkS l)), .sh (.int (z * 40 + y + 1)), .sh (.str ⟨#[a]⟩)], .inl ?_,_,_,rfl⟩
      simp_arith [e_5,evs,bt_3,ha,u_4 hx,x_0,hb',decide_false,Bool.not_true,k_3 (ac_9 (show(-18446744073709551616:Int) < 40 by decide) (by decide)),beq_self_eq_true,hy,f_5]
    ·obtain⟨z,a2,rfl⟩:=hI;refine⟨_,rfl, ?_⟩
     simp_arith [e_5,evs,bt_3,g2,Bool.not_false]
  simp_arith [f_7,m_9,evs,i_8,j_3,key]
def bb_8:Xn:=⟨"NoKeys", [], []⟩
theorem by_4{xs:List D}(h:xs.length < 1∨200 < xs.length):c_4 [.lst xs]= .ex bb_8:=by
 by_cases c1:(xs.length:Int)=0
 ·simp_arith [c_4,n_1,evs,c_9,e_4,c1,am_3,bb_8]
 ·have c2:(200:Int) < (xs.length:Int):=by omega
  simp_arith [c_4,n_1,evs,c_9,e_4,c1,x_0,c2,am_3,bb_8]
theorem bo_2{l:List D}{d:D}{r:List D}(hk:∀k∈l ++ d::r,isKey k)(nd:l.Nodup)(hd:d∈l)(h2:l.length + r.length < 200):c_4 [.lst (l ++ d::r)]= .ex (bb_6 l.length):=by
 have zk:((l ++ d::r).length:Int)=(l.length:Int) + (r.length:Int) + 1:=by simp;omega
 have c1:¬((l ++ d::r).length:Int)=0:=by omega
 have c2:¬(200:Int) < ((l ++ d::r).length:Int):=by omega
 simp_arith [c_4,n_1,evs,c_9,e_4,c1,x_0,c2,bt_2 hk,bo_1 (fun k h=>hk k (List.mem_append_left _ h)) nd (by omega) hd r,exG]
theorem aw_0:∀{xs:List D},(∀d∈xs,n_4 d)→(∀d∈xs,isKey d)∨∃l d r,xs=l ++ d::r∧(∀k∈l,isKey k)∧badT d∧∀k∈r,n_4 k
 | [],_=> .inl fun d h=>absurd h (by simp)
 |x::xs,h=>by
  rcases h x (by simp) with hx|hx
  ·rcases aw_0 (xs:=xs) (fun d hd=>h d (by simp [hd])) with h'|⟨l,d,r,rfl,h1,h2,h3⟩
   ·exact .inl fun d hd=>by
     rcases List.mem_cons.mp hd with rfl|hd
     ·exact hx
     ·exact h' d hd
   ·exact .inr ⟨x::l,d,r,rfl,fun k hk=>by
     rcases List.mem_cons.mp hk with rfl|hk
     ·exact hx
     ·exact h1 k hk,h2,h3⟩
  ·exact .inr ⟨[],x,xs,rfl,fun k hk=>absurd hk (by simp),hx,fun k hk=>h k (by simp [hk])⟩
theorem bj_6(xs:List D):xs.Nodup∨∃l d r,xs=l ++ d::r∧l.Nodup∧d∈l:=by
 have:∀n,n≤xs.length→(xs.take n).Nodup∨∃l d r,xs=l ++ d::r∧l.Nodup∧d∈l:=by
  intro n
  induction n with
  |zero=>intro _;exact .inl (by simp)
  |succ n ih=>
   intro hn;rcases ih (by omega) with h|h
   ·by_cases hm:xs[n]∈xs.take n
    ·refine .inr ⟨xs.take n,xs[n],xs.drop (n + 1), ?_,h,hm⟩;rw [←List.drop_eq_getElem_cons (by omega),List.take_append_drop]
    ·left;rw [List.take_add_one,List.getElem?_eq_getElem (by omega)];show(xs.take n ++ [xs[n]]).Nodup;rw [List.nodup_append];exact⟨h,by simp,fun a ha b hb=>by
      have:b=xs[n]:=by simpa using hb
      rintro rfl
      exact hm (this▸ha)⟩
   ·exact .inr h
 have h:=this xs.length (Nat.le_refl _)
 rwa [List.take_length] at h
theorem co_3{d:D}{ks:List D}(hd:isKey d)(hk:∀k∈ks,isKey k):inD false d (.lst ks)= .ok (.sh (.bl (x_8 d ks))):=by
 unfold inD;simp only [hd.flat,bj_0 hk,Bool.and_true,if_true,Bool.false_eq_true,if_false]
theorem co_4(b n:Nat):repS (mkS [b]) n=mkS (List.replicate n b):=by
 refine br_7 ?_;rw [l_2];have all:∀(m:Nat) (a:Array Nat),((List.replicate m (mkS [b]).cps).foldl (· ++ ·) a).toList=a.toList ++ List.replicate m b:=by
  intro m
  induction m with
  |zero=>intro a;simp
  |succ m ih=>
   intro a;rw [List.replicate_succ,List.foldl_cons,ih,List.replicate_succ];simp [mkS]
 show((List.replicate n (mkS [b]).cps).foldl (· ++ ·) #[]).toList=_;rw [all];rfl
theorem bj_7{b:Nat}{n:Int}(h0:0≤n)(h1:n≤1000):mulT (.str (mkS [b])) (.int n)= .ok (.sh (.str (mkS (List.replicate n.toNat b)))):=by
 unfold mulT;simp only;rw [if_pos ⟨by omega,by rw [j_9];exact Nat.le_of_ble_eq_true rfl⟩,co_4]
theorem ax_1{x:Str}{l:List Nat}(h:x.cps.toList=l)(hl:l.length≤100){n:Int}(h0:0≤n)(h1:n < l.length):∃c∈l,ixD (.str x) (.int n)= .ok (.sh (.str (mkS [c]))):=by
 have hn:n.toNat < l.length:=by omega
 refine⟨l[n.toNat],List.getElem_mem hn,br_9 (by rw [br_8,h];omega) ?_⟩;rw [h];exact az_3 h0 (List.getElem?_eq_getElem hn)
theorem cg_5{a b c:Int}(z:Int):∃q:Int,(q=a∨q=b∨q=c)∧ixD (.lst [D.int a, .int b, .int c]) (.int (z % 3))= .ok (.sh (.int q)):=by
 rcases(show z % 3=0∨z % 3=1∨z % 3=2 by omega) with h|h|h <;> rw [h]
 ·exact⟨a, .inl rfl,g_8 (m_0 (i:=0) rfl)⟩
 ·exact⟨b, .inr (.inl rfl),g_8 (m_0 (i:=1) rfl)⟩
 ·exact⟨c, .inr (.inr rfl),g_8 (m_0 (i:=2) rfl)⟩
theorem oddL:(Str.ofString "A.?").cps.toList= [65,46,63]:=by decide +kernel
theorem cx_3:∀c∈ [65,46,63],inB c=false:=by decide +kernel
theorem bt_4{l:List Nat}(h:∀c∈l,c < 0x110000):okD 0 (.str (mkS l))=true:=by
 show(mkS l).cps.all (· < 0x110000)=true;rw [←Array.all_toList,l_2,List.all_eq_true];exact fun c hc=>decide_eq_true (h c hc)
theorem ap_7(c:Int):∃d,badT d∧h_7 [.int c]= .ok (.sh d):=by
 have p20:=ah_7 (u_3 (i:=10) (j:=20) (by decide) (by decide) (by decide) (by decide));have p18:=ah_7 (u_3 (i:=10) (j:=18) (by decide) (by decide) (by decide) (by decide));have p9:=ah_7 (u_3 (i:=10) (j:=9) (by decide) (by decide) (by decide) (by decide));have e18:(10:Int) ^ (18:Int).toNat=1000000000000000000:=by decide
 have e20:(10:Int) ^ (20:Int).toNat=100000000000000000000:=by decide
 have e9:(10:Int) ^ (9:Int).toNat=1000000000:=by decide
 rw [e18] at p18;rw [e20] at p20;rw [e9] at p9;have d8:=j_6 (i:=c) (show(0:Int) < 8 by decide) (by decide);have d2:=j_6 (i:=c) (show(0:Int) < 2 by decide) (by decide);have d64:=j_6 (i:=c) (show(0:Int) < 64 by decide) (by decide);have m9:=fun i:Int=>e_3 (i:=i) (show(0:Int) < 9 by decide);have mb:=fun i:Int=>e_3 (i:=i) (show(0:Int) < 1000000000 by decide);have m3:=fun i:Int=>e_3 (i:=i) (show(0:Int) < 3 by decide);have m2:=fun i:Int=>e_3 (i:=i) (show(0:Int) < 2 by decide);obtain⟨far,hf,ef⟩:=cg_5 (a:=1) (b:=1 + c / 8 % 9) (c:=100000000000000000000 + c / 8 % 1000000000) (c / 2);have hf1:1≤far:=by rcases hf with h|h|h <;> omega
 have t1:sSet 1 [0] (eOp ixD (eLst (aCons (eC (.int 1)) (aCons (eOp b_6 (eC (.int 1)) (eOp d_7 (eOp h_1 (eVar 0) (eC (.int 8))) (eC (.int 9)))) (aCons (eOp b_6 (eOp powD (eC (.int 10)) (eC (.int 20))) (eOp d_7 (eOp h_1 (eVar 0) (eC (.int 8))) (eOp powD (eC (.int 10)) (eC (.int 9))))) aNil)))) (eOp d_7 (eOp h_1 (eVar 0) (eC (.int 2))) (eC (.int 3)))) (start3 3 [.int c])= .nx [.sh (.int c), .sh (.int far), .no]:=by
  simp_arith [evs,d8,m9,f_5,p20,p9,mb,d2,m3,ef]
 by_cases hc:c % 2=0
 ·obtain⟨d,hd,ed⟩:∃d,badT d∧ixD (.lst [.int (0 - far), .int (1000000000000000000 - 1 + far)]) (.int (c / 64 % 2))= .ok (.sh d):=by
   rcases(show c / 64 % 2=0∨c / 64 % 2=1 by omega) with h|h <;> rw [h]
   ·exact⟨_,⟨.inl ⟨0 - far,rfl, .inl (by omega)⟩,rfl⟩,g_8 (m_0 (i:=0) rfl)⟩
   ·exact⟨_,⟨.inl ⟨1000000000000000000 - 1 + far,rfl, .inr (by omega)⟩,rfl⟩,g_8 (m_0 (i:=1) rfl)⟩
  refine⟨d,hd,l_4 ?_⟩;unfold t_8;rw [a_7 t1]
  simp_arith [evs,m2,hc,e_4,decide_true,ad_0,p18,f_5,d64,ed]
 ·have r9:=bj_7 (b:=97) (n:=c / 64 % 9) (by omega) (by omega);have r9:mulT (.str "a") (.int (c / 64 % 9))= .ok (.sh (.str (mkS (List.replicate (c / 64 % 9).toNat 97)))):=r9;have r12:=bj_7 (b:=107) (n:=12 + c / 64 % 3) (by omega) (by omega);have r12:mulT (.str "k") (.int (12 + c / 64 % 3))= .ok (.sh (.str (mkS (List.replicate (12 + c / 64 % 3).toNat 107)))):=r12;obtain⟨o,ho,eo⟩:=ax_1 oddL (by decide) (n:=c / 8 % 3) (by omega) (by show c / 8 % 3 < ((3:Nat):Int);omega);have ca:∀x y:List Nat,x.length + y.length≤1000→b_6 (.str (mkS x)) (.str (mkS y))= .ok (.sh (.str (mkS (x ++ y)))):=fun x y h=>by
   rw [cd_8 (by rw [j_9,j_9];omega),bs_8]
  have c1:=ca (List.replicate (c / 64 % 9).toNat 97) [o] (by simp;omega);have c2:=ca (List.replicate (c / 64 % 9).toNat 97 ++ [o]) [122] (by simp;omega);have c2:b_6 (.str (mkS (List.replicate (c / 64 % 9).toNat 97 ++ [o]))) (.str "z")= .ok (.sh (.str (mkS (List.replicate (c / 64 % 9).toNat 97 ++ [o] ++ [122])))):=c2;have t2:sSet 2 [0] (eOp b_6 (eOp b_6 (eOp mulT (eC (.str "a")) (eOp d_7 (eOp h_1 (eVar 0) (eC (.int 64))) (eC (.int 9)))) (eOp ixD (eC (.str "A.?")) (eOp d_7 (eOp h_1 (eVar 0) (eC (.int 8))) (eC (.int 3))))) (eC (.str "z"))) [.sh (.int c), .sh (.int far), .no]= .nx [.sh (.int c), .sh (.int far), .sh (.str (mkS (List.replicate (c / 64 % 9).toNat 97 ++ [o] ++ [122])))]:=by
   simp_arith [evs,d64,m9,r9,d8,m3,eo,c1,c2]
  have ho':o < 0x110000:=by
   simp only [List.mem_cons,List.not_mem_nil,or_false] at ho;omega
  obtain⟨d,hd,ed⟩:∃d,badT d∧ixD (.lst [.str (mkS (List.replicate (12 + c / 64 % 3).toNat 107)), .str (mkS (List.replicate (c / 64 % 9).toNat 97 ++ [o] ++ [122])), .str "a\n"]) (.int (c / 2 % 3))= .ok (.sh d):=by
   rcases(show c / 2 % 3=0∨c / 2 % 3=1∨c / 2 % 3=2 by omega) with h|h|h <;> rw [h]
   ·exact⟨_,⟨.inr ⟨_,rfl,by simp;omega, .inl (by simp;omega)⟩,bt_4 fun a ha=>by rw [List.eq_of_mem_replicate ha];decide⟩,g_8 (m_0 (i:=0) rfl)⟩
   ·refine⟨_,⟨.inr ⟨_,rfl,by simp;omega, .inr ⟨o,by simp,inB o,in_B o,cx_3 o ho⟩⟩,bt_4 fun a ha=> ?_⟩,g_8 (m_0 (i:=1) rfl)⟩;rcases List.mem_append.mp ha with ha|ha
    ·rcases List.mem_append.mp ha with ha|ha
     ·rw [List.eq_of_mem_replicate ha];decide
     ·rw [List.mem_singleton.mp ha];exact ho'
    ·rw [List.mem_singleton.mp ha];decide
   ·exact⟨_,⟨.inr ⟨[97,10],rfl,by decide, .inr ⟨10,by decide,inB 10,in_B 10,by decide +kernel⟩⟩,by decide +kernel⟩,g_8 (m_0 (i:=2) rfl)⟩
  refine⟨d,hd,l_4 ?_⟩;unfold t_8;rw [a_7 t1];have t3:sIf [0] (eTest (eOp eqD (eOp d_7 (eVar 0) (eC (.int 2))) (eC (.int 0)))) (sRet [0,1] (eOp ixD (eLst (aCons (eOp subD (eC (.int 0)) (eVar 1)) (aCons (eOp b_6 (eOp subD (eOp powD (eC (.int 10)) (eC (.int 18))) (eC (.int 1))) (eVar 1)) aNil))) (eOp d_7 (eOp h_1 (eVar 0) (eC (.int 64))) (eC (.int 2))))) sNil [.sh (.int c), .sh (.int far), .no]= .nx [.sh (.int c), .sh (.int far), .no]:=by
   simp_arith [evs,m2,hc,e_4,decide_false]
  rw [a_7 t3,a_7 t2]
  simp_arith [evs,d64,m3,f_5,r12,d2,ed]
open Classical
theorem cg_6{l:List D}(nd:l.Nodup){i k:Nat}(hi:i < l.length)(hk:k < l.length)(e:l[i]=l[k]):i=k:=by
 rcases Nat.lt_trichotomy i k with h|h|h
 ·exact absurd e (List.pairwise_iff_getElem.mp nd i k hi hk h)
 ·exact h
 ·exact absurd e.symm (List.pairwise_iff_getElem.mp nd k i hk hi h)
theorem cg_7{xs:List D}(h:xs.length < 1∨200 < xs.length):i_4 [.lst xs]= .ok (.ow (.lst [.str "keys", .int 0])):=by
 by_cases c1:(xs.length:Int) < 1
 ·simp_arith [i_4,r_3,evs,c_9,ab_6,c1,decide_true]
 ·have c2:(200:Int) < (xs.length:Int):=by omega
  simp_arith [i_4,r_3,evs,c_9,ab_6,c1,decide_false,x_0,c2,decide_true]
section
variable{xs l r:List D}{d:D}
theorem bb_9(h1:1≤xs.length)(h2:xs.length≤200):sIf [0] (tOrF (eTest (eOp ltD (eCall k_2 (aCons (eVar 0) aNil)) (eC (.int 1)))) (eTest (eOp gtD (eCall k_2 (aCons (eVar 0) aNil)) (eC (.int 200))))) (sRet [] (eLst (aCons (eC (.str "keys")) (aCons (eC (.int 0)) aNil)))) sNil (start3 3 [.lst xs])= .nx [.sh (.lst xs), .no, .no]:=by
 have c1:¬(xs.length:Int) < 1:=by omega
 have c2:¬(200:Int) < (xs.length:Int):=by omega
 simp_arith [evs,c_9,ab_6,c1,decide_false,x_0,c2]
theorem ag_3{a1 a2:Sl}:r_7 (eVar 0) (vsh [.sh (.lst xs),a1,a2])= .ok (i_5 0 xs):=rfl
theorem bt_5{k:Nat}{e:D}(h:(i_5 0 xs)[k]? =some e):∃x,xs[k]? =some x∧e= .tup [.int (k:Int),x]:=by
 cases q:xs[k]? with
 |none=>
  have hl:xs.length≤k:=List.getElem?_eq_none_iff.mp q;have he:∀(ys:List D) (j:Nat),(i_5 j ys).length=ys.length:=by
   intro ys
   induction ys with
   |nil=>intro j;rfl
   |cons y ys ih=>intro j;show(i_5 (j + 1) ys).length + 1=_;rw [ih];rfl
  rw [List.getElem?_eq_none (by rw [he];exact hl)] at h;cases h
 |some x=>
  have:=u_9 (k:=0) q;rw [Nat.zero_add] at this;rw [this] at h;exact⟨x,rfl,(Option.some.inj h).symm⟩
theorem bt_6(hk:∀k∈xs,isKey k):∃a1 a2,i_8 [0] (r_7 (eVar 0)) (gV2 1 2) f_8 [.sh (.lst xs), .no, .no]= .nx [.sh (.lst xs),a1,a2]:=by
 obtain⟨Δ',e,a1,a2,rfl⟩:=j_4 (gV2 1 2) f_8 (fun _ Δ=>∃a1 a2,Δ= [.sh (.lst xs),a1,a2]) (ds:=i_5 0 xs) (Δ:= [.sh (.lst xs), .no, .no]) ⟨_,_,rfl⟩ (fun k e Δ he hI=>by
  obtain⟨a1,a2,rfl⟩:=hI;obtain⟨x,hx,rfl⟩:=bt_5 he;refine⟨_,rfl, [.sh (.lst xs), .sh (.int (k:Int)), .sh x], .inl ?_,_,_,rfl⟩;show f_8 [.sh (.lst xs), .sh (.int (k:Int)), .sh x]=_
  simp_arith [f_8,evs,w_4 (hk x (List.mem_of_getElem? hx))])
 refine⟨a1,a2, ?_⟩;unfold i_8;rw [ag_3];exact e
theorem co_5(hk:∀k∈l,isKey k)(hd:x_1 d)(h2:l.length + r.length < 200):i_4 [.lst (l ++ d::r)]= .ok (.ow (.lst [.str "key", .int (l.length:Int)])):=by
 have zk:(l ++ d::r).length=l.length + r.length + 1:=by simp;omega
 have t1:=bb_9 (xs:=l ++ d::r) (by omega) (by omega);have hat:(l ++ d::r)[l.length]? =some d:=by simp
 have e1:=s_4 (gV2 1 2) f_8 (fun _ Δ=>∃a1 a2,Δ= [.sh (.lst (l ++ d::r)),a1,a2]) (ds:=i_5 0 (l ++ d::r)) (Δ:= [.sh (.lst (l ++ d::r)), .no, .no]) (n:=l.length) (d:= .tup [.int (l.length:Int),d]) (r:= .rt (.ow (.lst [.str "key", .int (l.length:Int)]))) ⟨_,_,rfl⟩
  (by have:=u_9 (k:=0) hat;rw [Nat.zero_add] at this;exact this) (fun k e Δ hkl he hI=>by
   obtain⟨a1,a2,rfl⟩:=hI;obtain⟨x,hx,rfl⟩:=bt_5 he;rw [List.getElem?_append_left hkl] at hx;refine⟨_,rfl, [.sh (.lst (l ++ d::r)), .sh (.int (k:Int)), .sh x], .inl ?_,_,_,rfl⟩;show f_8 [.sh (.lst (l ++ d::r)), .sh (.int (k:Int)), .sh x]=_
   simp_arith [f_8,evs,w_4 (hk x (List.mem_of_getElem? hx))])
  (fun Δ hI=>by
   obtain⟨a1,a2,rfl⟩:=hI;refine⟨_,rfl, ?_⟩;show f_8 [.sh (.lst (l ++ d::r)), .sh (.int (l.length:Int)), .sh d]=_
   simp_arith [f_8,evs,bb_7 hd]) rfl
 have t2:i_8 [0] (r_7 (eVar 0)) (gV2 1 2) f_8 [.sh (.lst (l ++ d::r)), .no, .no]= .rt (.ow (.lst [.str "key", .int (l.length:Int)])):=by
  unfold i_8;rw [ag_3];exact e1
 refine l_4 ?_;unfold r_3;rw [a_7 t1];unfold sSeq;rw [t2]
theorem bo_3(hk:∀k∈xs,isKey k){k:Nat}{x:D}(hx:xs[k]? =some x):inD false x (.lst (q_1 xs none (some (k:Int))))= .ok (.sh (.bl (decide (x∈xs.take k)))):=by
 have hlt:k < xs.length:=(List.getElem?_eq_some_iff.mp hx).1;rw [cf_2 xs k (by omega),co_3 (hk x (List.mem_of_getElem? hx)) (fun y hy=>hk y (List.mem_of_mem_take hy))];have:=bt_0 (hk x (List.mem_of_getElem? hx)) (fun y hy=>hk y (List.mem_of_mem_take hy):∀y∈xs.take k,isKey y)
 congr 3
 rw [Bool.eq_iff_iff,this,decide_eq_true_iff]
theorem by_5(hk:∀k∈l ++ d::r,isKey k)(nd:l.Nodup)(hd:d∈l)(h2:l.length + r.length < 200):i_4 [.lst (l ++ d::r)]= .ok (.ow (.lst [.str "twice", .int (l.length:Int)])):=by
 have zk:(l ++ d::r).length=l.length + r.length + 1:=by simp;omega
 have t1:=bb_9 (xs:=l ++ d::r) (by omega) (by omega);obtain⟨b1,b2,t2⟩:=bt_6 hk;have hat:(l ++ d::r)[l.length]? =some d:=by simp
 have e1:=s_4 (gV2 1 2) f_9 (fun _ Δ=>∃a1 a2,Δ= [.sh (.lst (l ++ d::r)),a1,a2]) (ds:=i_5 0 (l ++ d::r)) (Δ:= [.sh (.lst (l ++ d::r)),b1,b2]) (n:=l.length) (d:= .tup [.int (l.length:Int),d]) (r:= .rt (.ow (.lst [.str "twice", .int (l.length:Int)]))) ⟨_,_,rfl⟩
  (by have:=u_9 (k:=0) hat;rw [Nat.zero_add] at this;exact this) (fun k e Δ hkl he hI=>by
   obtain⟨a1,a2,rfl⟩:=hI;obtain⟨x,hx,rfl⟩:=bt_5 he;have hin:=bo_3 hk hx;have hno:decide (x∈(l ++ d::r).take k)=false:=by
    rw [List.getElem?_append_left hkl] at hx;rw [List.take_append_of_le_length (by omega)];refine decide_eq_false fun hm=> ?_;obtain⟨i,hi,e⟩:=List.getElem_of_mem hm;rw [List.length_take] at hi;have hx':l[k]=x:=(List.getElem?_eq_some_iff.mp hx).2;have:l[i]'(by omega)=l[k]:=by rw [hx',←e];simp
    have:=cg_6 nd _ _ this;omega
   rw [hno] at hin;refine⟨_,rfl, [.sh (.lst (l ++ d::r)), .sh (.int (k:Int)), .sh x], .inl ?_,_,_,rfl⟩;show f_9 [.sh (.lst (l ++ d::r)), .sh (.int (k:Int)), .sh x]=_
   simp_arith [f_9,evs,eSlice,r_6,hin])
  (fun Δ hI=>by
   obtain⟨a1,a2,rfl⟩:=hI;refine⟨_,rfl, ?_⟩;have hin:=bo_3 hk hat;rw [decide_eq_true (by rw [List.take_left'];exact hd;rfl)] at hin;show f_9 [.sh (.lst (l ++ d::r)), .sh (.int (l.length:Int)), .sh d]=_
   simp_arith [f_9,evs,eSlice,r_6,hin]) rfl
 have t3:i_8 [0] (r_7 (eVar 0)) (gV2 1 2) f_9 [.sh (.lst (l ++ d::r)),b1,b2]= .rt (.ow (.lst [.str "twice", .int (l.length:Int)])):=by
  unfold i_8;rw [ag_3];exact e1
 refine l_4 ?_;unfold r_3;rw [a_7 t1,a_7 t2];unfold sSeq;rw [t3]
theorem cg_8(hk:∀k∈xs,isKey k)(nd:xs.Nodup)(h1:1≤xs.length)(h2:xs.length≤200):i_4 [.lst xs]= .ok (.sh .non):=by
 have t1:=bb_9 h1 h2;obtain⟨b1,b2,t2⟩:=bt_6 hk;obtain⟨Δ',e1,a1,a2,rfl⟩:=j_4 (gV2 1 2) f_9 (fun _ Δ=>∃a1 a2,Δ= [.sh (.lst xs),a1,a2]) (ds:=i_5 0 xs) (Δ:= [.sh (.lst xs),b1,b2]) ⟨_,_,rfl⟩ (fun k e Δ he hI=>by
   obtain⟨a1,a2,rfl⟩:=hI;obtain⟨x,hx,rfl⟩:=bt_5 he;have hin:=bo_3 hk hx;have hno:decide (x∈xs.take k)=false:=by
    refine decide_eq_false fun hm=> ?_;obtain⟨i,hi,e⟩:=List.getElem_of_mem hm;rw [List.length_take] at hi;have hx':=(List.getElem?_eq_some_iff.mp hx);have hlt:=hx'.1;have:xs[i]'(by omega)=xs[k]:=by rw [hx'.2,←e];simp
    have:=cg_6 nd _ _ this;omega
   rw [hno] at hin;refine⟨_,rfl, [.sh (.lst xs), .sh (.int (k:Int)), .sh x], .inl ?_,_,_,rfl⟩;show f_9 [.sh (.lst xs), .sh (.int (k:Int)), .sh x]=_
   simp_arith [f_9,evs,eSlice,r_6,hin])
 have t3:i_8 [0] (r_7 (eVar 0)) (gV2 1 2) f_9 [.sh (.lst xs),b1,b2]= .nx [.sh (.lst xs),a1,a2]:=by
  unfold i_8;rw [ag_3];exact e1
 refine l_4 ?_;unfold r_3;rw [a_7 t1,a_7 t2,a_7 t3];rfl
end
section
variable{L a b:D}{x:Xn}
theorem ab_1(h:f_1 [L,a,b]= .ex x):l_6 [.sh L, .sh a, .sh b, .sh .non, .no]= .ex x [.sh L, .sh a, .sh b, .sh .non, .no]:=by
 have hm:aj_8 "Halved" 3 f_1 (aCons (eVar 0) (aCons (eVar 1) (aCons (eVar 2) aNil))) [some L,some a,some b,some .non,none]= .ex x:=by
  unfold aj_8;rw [show(aCons (eVar 0) (aCons (eVar 1) (aCons (eVar 2) aNil))) [some L,some a,some b,some D.non,none]= .ok [L,a,b] from rfl,R.bind_ok,if_pos (show [L,a,b].length=3 from rfl),h];rfl
 simp_arith [l_6,evs,exG,hm]
theorem am_7{t:D}(h:l_6 [.sh L, .sh a, .sh b, .sh .non, .no]= .ex x [.sh L, .sh a, .sh b, .sh .non, .no])(r:tryH [⟨some 4, [("NoFit",false),("NoKey",false),("NoKeys",true),("Twice",false)],af_6⟩,⟨some 4, [("NoFit",false),("NoKey",true),("NoKeys",false),("Twice",false)],af_7⟩,⟨some 4, [("NoFit",false),("NoKey",false),("NoKeys",false),("Twice",true)],af_8⟩,⟨some 4, [("NoFit",true),("NoKey",false),("NoKeys",false),("Twice",false)],af_9⟩] x [.sh L, .sh a, .sh b, .sh .non, .no]= .nx [.sh L, .sh a, .sh b, .ow t, .no]):g_6 [L,a,b]= .ok (.ow t):=by
 have e:s_2 [.sh L, .sh a, .sh b, .no, .no]= .rt (.ow t):=by
  unfold s_2;refine(a_7 (Δ':= [.sh L, .sh a, .sh b, .sh .non, .no]) rfl).trans ((a_7 (Δ':= [.sh L, .sh a, .sh b, .ow t, .no]) ?_).trans rfl);unfold aj_9;rw [h];exact r
 unfold g_6 bodyD;rw [show start3 5 [L,a,b]= [.sh L, .sh a, .sh b, .no, .no] from rfl,e]
theorem by_6(h:f_1 [L,a,b]= .ex ⟨"NoKeys", [], []⟩):g_6 [L,a,b]= .ok (.ow (.lst [.str "keys", .int 0, .int 1])):=am_7 (ab_1 h) rfl
theorem cg_9{n:Int}(h:f_1 [L,a,b]= .ex ⟨"NoKey", ["at"], [.int n]⟩):g_6 [L,a,b]= .ok (.ow (.lst [.str "key", .int n, .int 1])):=am_7 (ab_1 h) rfl
theorem bo_4{n:Int}(h:f_1 [L,a,b]= .ex ⟨"Twice", ["at"], [.int n]⟩):g_6 [L,a,b]= .ok (.ow (.lst [.str "twice", .int n, .int 1])):=am_7 (ab_1 h) rfl
theorem ch_0{n:Int}(h:f_1 [L,a,b]= .ex ⟨"NoFit", ["at"], [.int n]⟩):g_6 [L,a,b]= .ok (.ow (.lst [.str "fit", .int n, .int 1])):=am_7 (ab_1 h) rfl
end
theorem ai_5{xs:List D}{a b:D}{x:Xn}(h:c_4 [.lst xs]= .ex x):f_1 [.lst xs,a,b]= .ex x:=by
 have e:eFn 1 c_4 (aCons (eVar 1) aNil) (vsh (gsome [1] (t_4 4 "Halved" [.lst xs,a,b])))= .ex x:=by
  rw [←h];rfl
 have q:w_0 0 "Halved" [1] b_9 (eFn 1 c_4 (aCons (eVar 1) aNil)) (t_4 4 "Halved" [.lst xs,a,b])= .ex x (gsome [1] (t_4 4 "Halved" [.lst xs,a,b])):=by
  unfold w_0;rw [show(gsome [1] (t_4 4 "Halved" [.lst xs,a,b]))[0]? =some (.lt (.obj "Halved" [] [])) from rfl];simp only [if_true,e]
 unfold f_1 ao_5 o_4;rw [show∀(g:FS),sSeq (w_0 0 "Halved" [1] b_9 (eFn 1 c_4 (aCons (eVar 1) aNil))) g (t_4 4 "Halved" [.lst xs,a,b])= .ex x (gsome [1] (t_4 4 "Halved" [.lst xs,a,b])) from fun g=>by unfold sSeq;rw [q]]
theorem ai_6{xs:List D}{a b:D}{w:Str}{n:Int}(hx:okD 1 (.lst xs)=true)(hw:okD 0 (.str w)=true)(hd:i_4 [.lst xs]= .ok (.ow (.lst [.str w, .int n])))(hm:g_6 [.lst xs,a,b]= .ok (.ow (.lst [.str w, .int n, .int 1]))):d_0 [.lst xs,a,b]= .ok (.sh (.bl true)):=by
 have hn:=cf_1 1 hx;have he:eqD (.lst [.str w, .int n, .int 1]) (.lst [.str w, .int n, .int 1])= .ok (.sh (.bl true)):=ap_3 1 (by show([D.str w, .int n, .int 1].all (okD 0))=true;simp only [List.all_cons,List.all_nil,hw,Bool.and_true];rfl);have e:s_9 [.sh (.lst xs), .sh a, .sh b, .no, .no, .no, .no, .no]= .rt (.sh (.bl true)):=by
  unfold s_9;refine(a_7 (Δ':= [.sh (.lst xs), .sh a, .sh b, .ow (.lst xs), .no, .no, .no, .no]) (by simp_arith [evs,an_9])).trans ?_;refine(a_7 (Δ':= [.sh (.lst xs), .sh a, .sh b, .ow (.lst xs), .ow (.lst [.str w, .int n]), .no, .no, .no]) (by simp_arith [evs,hd])).trans ?_;refine(a_7 (by simp_arith [evs];rfl)).trans ?_;refine(a_7 (Δ':= [.sh (.lst xs), .sh a, .sh b, .sh (.lst xs), .ow (.lst [.str w, .int n]), .ow (.lst [.str w, .int n, .int 1]), .no, .no]) (by simp_arith [evs,hm])).trans ?_;refine(a_7 (by simp_arith [evs,hn];rfl)).trans ?_
  simp_arith [evs,b_6,List.cons_append,List.nil_append,he]
  rfl
 unfold d_0 bodyD;rw [show start3 8 [.lst xs,a,b]= [.sh (.lst xs), .sh a, .sh b, .no, .no, .no, .no, .no] from rfl,e]
theorem by_7{xs:List D}(h:∀d∈xs,n_4 d)(a b:D):d_0 [.lst xs,a,b]= .ok (.sh (.bl true))∨((∀d∈xs,isKey d)∧xs.Nodup∧1≤xs.length∧xs.length≤200):=by
 have hx:=by_1 h
 by_cases hl:xs.length < 1∨200 < xs.length
 ·exact .inl (ai_6 hx (by decide +kernel) (cg_7 hl) (by_6 (ai_5 (by_4 hl))))
 ·have h1:1≤xs.length:=by omega
  have h2:xs.length≤200:=by omega
  rcases aw_0 h with hk|⟨l,d,r,rfl,hk,hd,hr⟩
  ·rcases bj_6 xs with nd|⟨l,d,r,rfl,nd,hd⟩
   ·exact .inr ⟨hk,nd,h1,h2⟩
   ·have zk:l.length + r.length < 200:=by simp at h2;omega
    exact .inl (ai_6 hx (by decide +kernel) (by_5 hk nd hd zk) (bo_4 (ai_5 (bo_2 hk nd hd zk))))
  ·have zk:l.length + r.length < 200:=by simp at h2;omega
   exact .inl (ai_6 hx (by decide +kernel) (co_5 hk hd.1 zk) (cg_9 (ai_5 (co_2 hk hd.1 zk))))
theorem aw_1(n s z:Int)(hz:0 < z):0≤j_0 n s z∧j_0 n s z < z:=⟨Int.emod_nonneg _ (by omega),Int.emod_lt_of_pos _ hz⟩
def d_3(b:Int)(L:List Int)(s:Int):List Int:=L.filter fun x=>decide (j_0 x s 2=b)
theorem bj_8(b s:Int)(L:List Int):((L.map D.int).filter fun d=>match d with| .int x=>decide (j_0 x s 2=b)|_=>false).map (fun d=>d)=(d_3 b L s).map .int:=by
 rw [List.map_id',List.filter_map];rfl
theorem bt_7(L:List Int)(s:Int)(s0:0≤s)(s1:s < 1000)(hl:L.length≤1000):m_3 [.lst (L.map .int), .int s]= .ok (.ow (.lst ((d_3 0 L s).map .int))):=by
 have hc:=u_5 (fg:=gC 2) (p:=r_2) (f:=eVar 2) (δ:= [some (.lst (L.map .int)),some (.int s),none]) (fun d=>match d with| .int x=>decide (j_0 x s 2=0)|_=>false) (fun d=>d) (L.map .int) (fun d hd=>by
  obtain⟨x,hx,rfl⟩:=List.mem_map.mp hd;refine⟨[some (.lst (L.map .int)),some (.int s),some (.int x)],rfl, ?_,fun _=>⟨_,rfl,rfl⟩⟩
  simp_arith [r_2,evs,(ag_2 x s 2 (by omega) (by omega) (by decide)).2,e_4])
 rw [bj_8] at hc;have ec:=j_2 (m:=1) (fi:=iOf (eVar 0)) (fg:=gC 2) (p:=r_2) (f:=eVar 2) (δ:= [some (.lst (L.map .int)),some (.int s)]) (ds:=L.map .int) (by simp_arith [evs]) (by rw [List.length_map];omega) hc
 simp_arith [m_3,ap_1,evs,ec]
theorem bc_0(L:List Int)(s b:Int)(s0:0≤s)(s1:s < 1000)(hl:L.length≤1000):p_6 [.lst (L.map .int), .int s, .int b]= .ok (.ow (.lst ((d_3 b L s).map .int))):=by
 have hc:=u_5 (fg:=gC 3) (p:=s_8) (f:=eVar 3) (δ:= [some (.lst (L.map .int)),some (.int s),some (.int b),none]) (fun d=>match d with| .int x=>decide (j_0 x s 2=b)|_=>false) (fun d=>d) (L.map .int) (fun d hd=>by
  obtain⟨x,hx,rfl⟩:=List.mem_map.mp hd;refine⟨[some (.lst (L.map .int)),some (.int s),some (.int b),some (.int x)],rfl, ?_,fun _=>⟨_,rfl,rfl⟩⟩
  simp_arith [s_8,evs,(ag_2 x s 2 (by omega) (by omega) (by decide)).1,e_4])
 rw [bj_8] at hc;have ec:=j_2 (m:=1) (fi:=iOf (eVar 0)) (fg:=gC 3) (p:=s_8) (f:=eVar 3) (δ:= [some (.lst (L.map .int)),some (.int s),some (.int b)]) (ds:=L.map .int) (by simp_arith [evs]) (by rw [List.length_map];omega) hc
 simp_arith [p_6,av_7,evs,ec]
theorem co_6(l:List Int):y_2 (l.map .int)=some l:=by
 have e:=av_8 (fun i:Int=>i) l
 rwa [List.map_id'] at e
theorem bj_9{l:List Int}(h:l.length≤4000):am_0 (.lst (l.map .int))= .ok (.sh (.int (met l).length)):=by
 unfold am_0;simp only [co_6,if_pos h]
def mixL(L:List Int)(s:Int):List Int:=L.map fun x=>j_0 x s (L.length:Int)
def unB(L:List Int)(s:Int):Bool:=decide (((met (mixL L s)).length:Int)=(L.length:Int))
theorem bt_8(L:List Int)(s:Int):(L.map D.int).map (fun d=>match d with| .int x=>D.int (j_0 x s (L.length:Int))|d=>d)=(mixL L s).map .int:=by
 unfold mixL;rw [List.map_map,List.map_map];rfl
theorem bk_0(L:List Int)(s:Int):(mixL L s).length=L.length:=List.length_map _
theorem by_8(L:List Int)(s:Int)(s0:0≤s)(s1:s < 1000)(h1:1≤L.length)(hl:L.length≤1000):o_0 [.lst (L.map .int), .int s]= .ok (.sh (.bl (unB L s))):=by
 have hc:=r_8 (fg:=gC 2) (f:=n_9) (δ:= [some (.lst (L.map .int)),some (.int s),none]) (fun d=>match d with| .int x=>D.int (j_0 x s (L.length:Int))|d=>d) (L.map .int) (fun d hd=>by
  obtain⟨x,hx,rfl⟩:=List.mem_map.mp hd;refine⟨[some (.lst (L.map .int)),some (.int s),some (.int x)], .sh (.int (j_0 x s (L.length:Int))),rfl, ?_,rfl⟩
  simp_arith [n_9,evs,c_9,List.length_map,(ag_2 x s (L.length:Int) (by omega) (by omega) (by omega)).2])
 rw [bt_8] at hc;have ec:=j_2 (m:=1) (fi:=iOf (eVar 0)) (fg:=gC 2) (p:=fun _=> .ok true) (f:=n_9) (δ:= [some (.lst (L.map .int)),some (.int s)]) (ds:=L.map .int) (by simp_arith [evs]) (by rw [List.length_map];omega) hc
 simp_arith [o_0,af_4,evs,ec,ae_8,bj_9 (l:=mixL L s) (by rw [bk_0];omega),c_9,List.length_map,e_4,unB]
def fitB(leaf:Int)(L:List Int)(s:Int):Bool:=if(L.length:Int)≤leaf then unB L s else decide (((d_3 0 L s).length:Int)=((L.length:Int) + 1) / 2)
theorem bt_9(leaf:Int)(L:List Int)(s:Int)(s0:0≤s)(s1:s < 1000)(h1:1≤L.length)(hl:L.length≤1000):p_5 [.lst (L.map .int), .int leaf, .int s]= .ok (.sh (.bl (fitB leaf L s))):=by
 by_cases c:(L.length:Int)≤leaf
 ·simp_arith [p_5,ad_2,evs,c_9,List.length_map,s_6,c,decide_true,by_8 L s s0 s1 h1 hl,fitB,if_true]
 ·simp_arith [p_5,ad_2,evs,c_9,List.length_map,s_6,c,decide_false,bt_7 L s s0 s1 hl,f_5,j_6 (show(0:Int) < 2 by decide) (by decide),e_4,fitB,if_false]
theorem w_5(z leaf:Int)(hf:1≤leaf):n_2 [.int z, .int leaf]= .ok (.sh (.bl (decide (z≤leaf)))):=by
 have e:max leaf 1=leaf:=by omega
 simp_arith [n_2,av_6,evs,az_2,e,s_6]
theorem co_7(z:Int):k_9 [.int z]= .ok (.sh (.int ((z + 1) / 2))):=by
 simp_arith [k_9,ak_2,evs,f_5,j_6 (show(0:Int) < 2 by decide) (by decide)]
theorem w_6(leaf:Int)(hf:1≤leaf)(L:List Int)(s:Int)(s0:0≤s)(s1:s < 1000)(h1:1≤L.length)(hl:L.length≤1000):n_3 [.lst (L.map .int), .int s, .int leaf]= .ok (.sh (.bl (fitB leaf L s))):=by
 have hc:=r_8 (fg:=gC 4) (f:=p_8) (δ:= [some (.lst (L.map .int)),some (.int s),some (.int leaf),some (.int (L.length:Int)),none]) (fun d=>match d with| .int x=>D.int (j_0 x s (L.length:Int))|d=>d) (L.map .int) (fun d hd=>by
  obtain⟨x,hx,rfl⟩:=List.mem_map.mp hd;refine⟨[some (.lst (L.map .int)),some (.int s),some (.int leaf),some (.int (L.length:Int)),some (.int x)], .sh (.int (j_0 x s (L.length:Int))),rfl, ?_,rfl⟩
  simp_arith [p_8,evs,(ag_2 x s (L.length:Int) (by omega) (by omega) (by omega)).1])
 rw [bt_8] at hc;have ec:=j_2 (m:=1) (fi:=iOf (eVar 0)) (fg:=gC 4) (p:=fun _=> .ok true) (f:=p_8) (δ:= [some (.lst (L.map .int)),some (.int s),some (.int leaf),some (.int (L.length:Int))]) (ds:=L.map .int) (by simp_arith [evs]) (by rw [List.length_map];omega) hc
 by_cases c:(L.length:Int)≤leaf
 ·simp_arith [n_3,y_9,evs,c_9,List.length_map,w_5 _ leaf hf,c,decide_true,ec,ae_8,bj_9 (l:=mixL L s) (by rw [bk_0];omega),e_4,fitB,unB,if_true]
 ·simp_arith [n_3,y_9,evs,c_9,List.length_map,w_5 _ leaf hf,c,decide_false,bc_0 L s 0 s0 s1 hl,co_7,e_4,fitB,if_false]
def m_4(leaf:Int)(most:Nat)(L:List Int):Option Nat:=(List.range most).find? fun s=>fitB leaf L (s:Int)
def bk_1:Option Nat→D
 |some s=> .int (s:Int)
 |none=> .non
theorem aw_2{p:Nat→Bool}{n:Nat}(h:(List.range n).find? p=none):∀s,s < n→p s=false:=fun s hs=>by
 have:=List.find?_eq_none.mp h s (List.mem_range.mpr hs);simpa using this
theorem v_0{p:Nat→Bool}{n s:Nat}(h:(List.range n).find? p=some s):s < n∧p s=true∧∀t,t < s→p t=false:=by
 have h1:=List.find?_some h;have h2:=List.mem_range.mp (List.mem_of_find?_eq_some h);refine⟨h2,h1,fun t ht=> ?_⟩;obtain⟨_,as,bs,e,ha⟩:=List.find?_eq_some_iff_append.mp h;have hl:as.length=s:=by
  have q:(List.range n)[as.length]? =some s:=by rw [e];simp
  have hlt:as.length < n:=by
   have:=congrArg List.length e;simp at this;omega
  rw [List.getElem?_range hlt] at q;exact Option.some.inj q
 have hta:t∈as:=by
  have q:(List.range n)[t]? =some t:=List.getElem?_range (by omega);rw [e,List.getElem?_append_left (by omega)] at q;exact List.mem_of_getElem? q
 have:=ha t hta;simpa using this
theorem ch_1(leaf:Int)(hf:1≤leaf)(most:Nat)(hm:most≤1000)(L:List Int)(h1:1≤L.length)(hl:L.length≤1000):o_2 [.lst (L.map .int), .int leaf, .int (most:Int)]= .ok (.sh (bk_1 (m_4 leaf most L))):=by
 have hi:iArgs p_1 (aCons (eVar 2) aNil) [some (.lst (L.map .int)),some (.int leaf),some (.int (most:Int)),none]= .ok (d_8 0 most):=by
  simp_arith [evs,af_0 (show(-4611686018427387903:Int)≤(most:Int) by omega) (by omega),Int.toNat_natCast]
 have hz:∀{k:Nat} {d:D},(d_8 0 most)[k]? =some d→d= .int (k:Int)∧k < most:=fun{k d} e=>by
  unfold d_8 at e;rw [List.getElem?_map] at e
  by_cases hk:k < most
  ·rw [List.getElem?_range hk] at e;simp only [Option.map_some,Int.zero_add,Option.some.injEq] at e;exact⟨e.symm,hk⟩
  ·rw [List.getElem?_eq_none (by simp;omega)] at e;cases e
 cases e:m_4 leaf most L with
 |none=>
  have hno:=aw_2 e;obtain⟨Δ',e1,a3,rfl⟩:=j_4 (gV 3) d_9 (fun _ Δ=>∃a3,Δ= [.sh (.lst (L.map .int)), .sh (.int leaf), .sh (.int (most:Int)),a3]) (ds:=d_8 0 most) (Δ:= [.sh (.lst (L.map .int)), .sh (.int leaf), .sh (.int (most:Int)), .no]) ⟨_,rfl⟩
   (fun k d Δ hd hI=>by
    obtain⟨a3,rfl⟩:=hI;obtain⟨rfl,hk⟩:=hz hd;refine⟨_,rfl, [.sh (.lst (L.map .int)), .sh (.int leaf), .sh (.int (most:Int)), .sh (.int (k:Int))], .inl ?_,_,rfl⟩
    simp_arith [d_9,evs,w_6 leaf hf L (k:Int) (by omega) (by omega) h1 hl,hno k hk])
  refine l_4 ?_;unfold w_2;have hf':i_8 [2] (iArgs p_1 (aCons (eVar 2) aNil)) (gV 3) d_9 (start3 4 [.lst (L.map .int), .int leaf, .int (most:Int)])= .nx [.sh (.lst (L.map .int)), .sh (.int leaf), .sh (.int (most:Int)),a3]:=by
   show i_8 [2] (iArgs p_1 (aCons (eVar 2) aNil)) (gV 3) d_9 [.sh (.lst (L.map .int)), .sh (.int leaf), .sh (.int (most:Int)), .no]=_;have h2:iArgs p_1 (aCons (eVar 2) aNil) (vsh [.sh (.lst (L.map .int)), .sh (.int leaf), .sh (.int (most:Int)), .no])= .ok (d_8 0 most):=hi;have h3:gsome [2] [.sh (.lst (L.map .int)), .sh (.int leaf), .sh (.int (most:Int)), .no]= [.sh (.lst (L.map .int)), .sh (.int leaf), .sh (.int (most:Int)), .no]:=rfl;unfold i_8;simp only [h3,h2];exact e1
  rw [a_7 hf'];rfl
 |some s=>
  obtain⟨hs,hfs,hno⟩:=v_0 e;have hd:(d_8 0 most)[s]? =some (.int (s:Int)):=by
   unfold d_8;rw [List.getElem?_map,List.getElem?_range hs];simp
  have e1:=s_4 (gV 3) d_9 (fun _ Δ=>∃a3,Δ= [.sh (.lst (L.map .int)), .sh (.int leaf), .sh (.int (most:Int)),a3]) (ds:=d_8 0 most) (Δ:= [.sh (.lst (L.map .int)), .sh (.int leaf), .sh (.int (most:Int)), .no]) (n:=s) (r:= .rt (.sh (.int (s:Int)))) ⟨_,rfl⟩ hd
   (fun k d Δ hk hd hI=>by
    obtain⟨a3,rfl⟩:=hI;obtain⟨rfl,hkm⟩:=hz hd;refine⟨_,rfl, [.sh (.lst (L.map .int)), .sh (.int leaf), .sh (.int (most:Int)), .sh (.int (k:Int))], .inl ?_,_,rfl⟩
    simp_arith [d_9,evs,w_6 leaf hf L (k:Int) (by omega) (by omega) h1 hl,hno k hk])
   (fun Δ hI=>by
    obtain⟨a3,rfl⟩:=hI;refine⟨_,rfl, ?_⟩
    simp_arith [d_9,evs,w_6 leaf hf L (s:Int) (by omega) (by omega) h1 hl,hfs]) rfl
  refine l_4 ?_;unfold w_2;have hf':i_8 [2] (iArgs p_1 (aCons (eVar 2) aNil)) (gV 3) d_9 (start3 4 [.lst (L.map .int), .int leaf, .int (most:Int)])= .rt (.sh (.int (s:Int))):=by
   show i_8 [2] (iArgs p_1 (aCons (eVar 2) aNil)) (gV 3) d_9 [.sh (.lst (L.map .int)), .sh (.int leaf), .sh (.int (most:Int)), .no]=_;have h2:iArgs p_1 (aCons (eVar 2) aNil) (vsh [.sh (.lst (L.map .int)), .sh (.int leaf), .sh (.int (most:Int)), .no])= .ok (d_8 0 most):=hi;have h3:gsome [2] [.sh (.lst (L.map .int)), .sh (.int leaf), .sh (.int (most:Int)), .no]= [.sh (.lst (L.map .int)), .sh (.int leaf), .sh (.int (most:Int)), .no]:=rfl;unfold i_8;simp only [h3,h2];exact e1
  unfold sSeq;rw [hf'];rfl
section
variable(leaf:Int)(most:Nat)
def e_1:Nat→List Int→List Int→Bool×List Int
 |0,_,acc=>(false,acc)
 |n + 1,L,acc=>match m_4 leaf most L with
  |none=>(false,acc)
  |some s=>if(L.length:Int)≤leaf then(true,acc ++ [(s:Int)]) else
   match e_1 n (d_3 0 L (s:Int)) (acc ++ [(s:Int)]) with
   |(true,r)=>e_1 n (d_3 1 L (s:Int)) r
   |(false,r)=>(false,r)
end
theorem by_9(L:List Int)(s:Int):(d_3 0 L s).length + (d_3 1 L s).length=L.length:=by
 unfold d_3
 induction L with
 |nil=>rfl
 |cons x L ih=>
  have hb:=aw_1 x s 2 (by decide);simp only [List.filter_cons];rcases(show j_0 x s 2=0∨j_0 x s 2=1 by omega) with e|e
  ·simp only [e,decide_true,if_true,List.length_cons,show decide ((0:Int)=1)=false from rfl,Bool.false_eq_true,if_false];omega
  ·simp only [e,decide_true,if_true,List.length_cons,show decide ((1:Int)=0)=false from rfl,Bool.false_eq_true,if_false];omega
theorem ag_5{leaf:Int}{most:Nat}{L:List Int}{s:Nat}(hf:1≤leaf)(e:m_4 leaf most L=some s)(c:¬(L.length:Int)≤leaf):
  (d_3 0 L (s:Int)).length=(L.length + 1) / 2∧(d_3 1 L (s:Int)).length=L.length - (L.length + 1) / 2∧s < most:=by
 obtain⟨h1,h2,_⟩:=v_0 e;unfold fitB at h2;rw [if_neg c] at h2;have h2:=of_decide_eq_true h2;have h3:=by_9 L (s:Int);omega
theorem co_8(L:List Int)(s:Int):L.filter (fun x=> !decide (x∈d_3 0 L s))=d_3 1 L s:=by
 unfold d_3;apply List.filter_congr;intro x hx;have hb:=aw_1 x s 2 (by decide);rcases(show j_0 x s 2=0∨j_0 x s 2=1 by omega) with e|e
 ·simp [List.mem_filter,hx,e]
 ·simp [List.mem_filter,e]
theorem bk_2(x:Int):∀l:List Int,x_8 (.int x) (l.map .int)=decide (x∈l)
 | []=>rfl
 |y::l=>by
  have ih:=bk_2 x l;unfold x_8 at ih⊢;rw [List.map_cons,List.any_cons,ih];have:eqF (D.int y) (D.int x)=decide (y=x):=rfl;simp only [List.mem_cons];rw [this]
  by_cases h:y=x
  ·subst h;simp
  ·have h':¬x=y:=fun z=>h z.symm;simp [h,h']
theorem bz_0(l:List Int):(l.map D.int).all flatD=true:=by
 rw [List.all_map];exact List.all_eq_true.mpr fun _ _=>rfl
theorem bz_1(x:Int)(l:List Int):inD true (.int x) (.lst (l.map .int))= .ok (.sh (.bl (!decide (x∈l)))):=by
 have:=bk_2 x l;have hf:=bz_0 l;simp only [inD,hf,show flatD (.int x)=true from rfl,and_self,if_true,this];rfl
theorem w_7{leaf:Int}{most:Nat}(hf:1≤leaf):∀(n:Nat) (L acc:List Int),1≤L.length→(e_1 leaf most n L acc).2.length≤acc.length + (2 * L.length - 1)
 |0,_,_,_=>by show _≤_;simp [e_1]
 |n + 1,L,acc,h1=>by
  unfold e_1;cases e:m_4 leaf most L with
  |none=>simp
  |some s=>
   by_cases c:(L.length:Int)≤leaf
   ·simp only [c,if_true,List.length_append,List.length_cons,List.length_nil];omega
   ·obtain⟨e0,e1,_⟩:=ag_5 hf e c;have i0:=w_7 (most:=most) hf n (d_3 0 L (s:Int)) (acc ++ [(s:Int)]) (by omega);rw [List.length_append] at i0;simp only [c,if_false];rcases hp:e_1 leaf most n (d_3 0 L (s:Int)) (acc ++ [(s:Int)]) with⟨b,r⟩
    rw [hp] at i0;simp only [List.length_cons,List.length_nil] at i0;cases b with
    |false=>simp only;omega
    |true=>
     have i1:=w_7 (most:=most) hf n (d_3 1 L (s:Int)) r (by omega);simp only;omega
theorem ap_8{leaf:Int}{most:Nat}(hm:most≤1000){L:List Int}(h1:1≤L.length)(hl:L.length≤1000){acc:D}:∀(k s:Nat),s + k=most→(∀t,t < s→fitB leaf L (t:Int)=false)→
  ∀m:Nat,k < m→h_2 [0,1,2,4] k_6 s_1 m [.sh (.lst (L.map .int)), .sh (.int leaf), .sh (.int (most:Int)), .sh acc, .sh (.int (s:Int)), .no, .no, .no]=
   .nx [.sh (.lst (L.map .int)), .sh (.int leaf), .sh (.int (most:Int)), .sh acc, .sh (.int (((m_4 leaf most L).getD most:Nat):Int)), .no, .no, .no]
 |0,s,hs,hno,m,hk=>by
  obtain⟨m,rfl⟩:∃j,m=j + 1:=⟨m - 1,by omega⟩;have:s=most:=by omega
  subst this;have e:m_4 leaf s L=none:=List.find?_eq_none.mpr fun t ht=>by rw [hno t (List.mem_range.mp ht)];exact Bool.false_ne_true
  rw [e];refine ah_8 ?_;have c:¬((s:Int) < (s:Int)):=by omega
  simp_arith [k_6,evs,ab_6,c,decide_false]
 |k + 1,s,hs,hno,m,hk=>by
  obtain⟨m,rfl⟩:∃j,m=j + 1:=⟨m - 1,by omega⟩;have c:(s:Int) < (most:Int):=by omega
  cases hf:fitB leaf L (s:Int) with
  |true=>
   have e:m_4 leaf most L=some s:=by
    cases q:m_4 leaf most L with
    |none=>rw [aw_2 q s (by omega)] at hf;cases hf
    |some t=>
     obtain⟨a1,a2,a3⟩:=v_0 q;rcases Nat.lt_trichotomy s t with z|z|z
     ·rw [a3 s z] at hf;cases hf
     ·rw [z]
     ·rw [hno t z] at a2;cases a2
   rw [e];refine ah_8 ?_
   simp_arith [k_6,evs,ab_6,c,decide_true,bt_9 leaf L (s:Int) (by omega) (by omega) h1 hl,hf]
  |false=>
   have ee:∀t,t < s + 1→fitB leaf L (t:Int)=false:=fun t ht=>by
    rcases Nat.lt_succ_iff_lt_or_eq.mp ht with z|z
    ·exact hno t z
    ·subst z;exact hf
   rw [y_5 (Δ':= [.sh (.lst (L.map .int)), .sh (.int leaf), .sh (.int (most:Int)), .sh acc, .sh (.int ((s + 1:Nat):Int)), .no, .no, .no]) ?_ ?_]
   ·exact ap_8 hm h1 hl k (s + 1) (by omega) ee m (by omega)
   ·simp_arith [k_6,evs,ab_6,c,decide_true,bt_9 leaf L (s:Int) (by omega) (by omega) h1 hl,hf]
   ·simp_arith [s_1,evs,f_5]
    rfl
theorem ai_7{leaf:Int}{most:Nat}(hf:1≤leaf)(hm:most≤1000):∀(n:Nat) (L acc:List Int),1≤L.length→L.length≤n→n≤100→acc.length + 2 * L.length≤10000→
  f_0 n [.lst (L.map .int), .int leaf, .int (most:Int), .lst (acc.map .int)]= .ok (.ow (.lst [.bl (e_1 leaf most n L acc).1, .lst ((e_1 leaf most n L acc).2.map .int)]))
 |0,L,acc,h1,h2,_,_=>by omega
 |n + 1,L,acc,h1,h2,h3,h4=>by
  have hw:=ap_8 (leaf:=leaf) (acc:= .lst (acc.map .int)) hm h1 (by omega) most 0 (by omega) (fun t ht=>absurd ht (Nat.not_lt_zero t)) 3000 (by omega);have t1:sSet 4 [] (eC (.int 0)) (start3 8 [.lst (L.map .int), .int leaf, .int (most:Int), .lst (acc.map .int)])= .nx [.sh (.lst (L.map .int)), .sh (.int leaf), .sh (.int (most:Int)), .sh (.lst (acc.map .int)), .sh (.int ((0:Nat):Int)), .no, .no, .no]:=by
   simp_arith [evs];rfl
  show bodyD 8 (w_1 (f_0 n)) _=_;refine l_4 ?_;unfold w_1;rw [a_7 t1,a_7 hw];unfold e_1;cases e:m_4 leaf most L with
  |none=>
   simp_arith [Option.getD_none,evs,e_4,decide_true]
  |some s=>
   obtain⟨hs,_,_⟩:=v_0 e;have c1:¬((s:Int)=(most:Int)):=by omega
   have eg:b_6 (.lst (acc.map .int)) (.lst [.int (s:Int)])= .ok (.ow (.lst ((acc ++ [(s:Int)]).map .int))):=by
    rw [ae_9 (by simp;omega),List.map_append];rfl
   have t3:sIf [2,4] (eTest (eOp eqD (eVar 4) (eVar 2))) (sRet [3] (eLst (aCons (eC (.bl false)) (aCons (eVar 3) aNil)))) sNil [.sh (.lst (L.map .int)), .sh (.int leaf), .sh (.int (most:Int)), .sh (.lst (acc.map .int)), .sh (.int (s:Int)), .no, .no, .no]= .nx [.sh (.lst (L.map .int)), .sh (.int leaf), .sh (.int (most:Int)), .sh (.lst (acc.map .int)), .sh (.int (s:Int)), .no, .no, .no]:=by
    simp_arith [evs,e_4,c1,decide_false]
   have t4:sSet 5 [3,4] (eOp b_6 (eVar 3) (eLst (aCons (eVar 4) aNil))) [.sh (.lst (L.map .int)), .sh (.int leaf), .sh (.int (most:Int)), .sh (.lst (acc.map .int)), .sh (.int (s:Int)), .no, .no, .no]= .nx [.sh (.lst (L.map .int)), .sh (.int leaf), .sh (.int (most:Int)), .sh (.lst (acc.map .int)), .sh (.int (s:Int)), .ow (.lst ((acc ++ [(s:Int)]).map .int)), .no, .no]:=by
    simp_arith [evs,eg]
   simp only [Option.getD_some];rw [a_7 t3,a_7 t4]
   by_cases c:(L.length:Int)≤leaf
   ·simp_arith [evs,c_9,List.length_map,s_6,c,decide_true,if_true]
   ·obtain⟨e0,e1,_⟩:=ag_5 hf e c;have i0:=ai_7 hf hm n (d_3 0 L (s:Int)) (acc ++ [(s:Int)]) (by omega) (by omega) (by omega) (by rw [List.length_append];simp;omega);have il:=w_7 (most:=most) hf n (d_3 0 L (s:Int)) (acc ++ [(s:Int)]) (by omega);rw [List.length_append] at il;have hg:=bt_7 L (s:Int) (by omega) (by omega) (by omega);have t5:sIf [0,1] (eTest (eOp leD (eCall k_2 (aCons (eVar 0) aNil)) (eVar 1))) (sRet [5] (eLst (aCons (eC (.bl true)) (aCons (eVar 5) aNil)))) sNil [.sh (.lst (L.map .int)), .sh (.int leaf), .sh (.int (most:Int)), .sh (.lst (acc.map .int)), .sh (.int (s:Int)), .ow (.lst ((acc ++ [(s:Int)]).map .int)), .no, .no]= .nx [.sh (.lst (L.map .int)), .sh (.int leaf), .sh (.int (most:Int)), .sh (.lst (acc.map .int)), .sh (.int (s:Int)), .ow (.lst ((acc ++ [(s:Int)]).map .int)), .no, .no]:=by
     simp_arith [evs,c_9,List.length_map,s_6,c,decide_false]
    have t6:sSet 6 [0,4] (eFn 2 m_3 (aCons (eVar 0) (aCons (eVar 4) aNil))) [.sh (.lst (L.map .int)), .sh (.int leaf), .sh (.int (most:Int)), .sh (.lst (acc.map .int)), .sh (.int (s:Int)), .ow (.lst ((acc ++ [(s:Int)]).map .int)), .no, .no]= .nx [.sh (.lst (L.map .int)), .sh (.int leaf), .sh (.int (most:Int)), .sh (.lst (acc.map .int)), .sh (.int (s:Int)), .ow (.lst ((acc ++ [(s:Int)]).map .int)), .ow (.lst ((d_3 0 L (s:Int)).map .int)), .no]:=by
     simp_arith [evs,hg]
    rw [a_7 t5,a_7 t6];simp only [c,if_false];rcases hp:e_1 leaf most n (d_3 0 L (s:Int)) (acc ++ [(s:Int)]) with⟨b,r⟩
    rw [hp] at i0 il;simp only [List.length_cons,List.length_nil] at il;have t7:sUnp (gP 7 5) [1,2,5,6] (eFn 4 (f_0 n) (aCons (eVar 6) (aCons (eVar 1) (aCons (eVar 2) (aCons (eVar 5) aNil))))) [.sh (.lst (L.map .int)), .sh (.int leaf), .sh (.int (most:Int)), .sh (.lst (acc.map .int)), .sh (.int (s:Int)), .ow (.lst ((acc ++ [(s:Int)]).map .int)), .ow (.lst ((d_3 0 L (s:Int)).map .int)), .no]= .nx [.sh (.lst (L.map .int)), .sh (.int leaf), .sh (.int (most:Int)), .sh (.lst (acc.map .int)), .sh (.int (s:Int)), .sh (.lst (r.map .int)), .sh (.lst ((d_3 0 L (s:Int)).map .int)), .sh (.bl b)]:=by
     have:eFn 4 (f_0 n) (aCons (eVar 6) (aCons (eVar 1) (aCons (eVar 2) (aCons (eVar 5) aNil)))) [some (.lst (L.map .int)),some (.int leaf),some (.int (most:Int)),some (.lst (acc.map .int)),some (.int (s:Int)),some (.lst ((acc ++ [(s:Int)]).map .int)),some (.lst ((d_3 0 L (s:Int)).map .int)),none]= .ok (.ow (.lst [.bl b, .lst (r.map .int)])):=by
      simp_arith [evs,i0]
     unfold sUnp;show(match eFn 4 (f_0 n) (aCons (eVar 6) (aCons (eVar 1) (aCons (eVar 2) (aCons (eVar 5) aNil)))) [some (.lst (L.map .int)),some (.int leaf),some (.int (most:Int)),some (.lst (acc.map .int)),some (.int (s:Int)),some (.lst ((acc ++ [(s:Int)]).map .int)),some (.lst ((d_3 0 L (s:Int)).map .int)),none] with| .ok w=>_| .ex x=>_| .no=>_)=_;rw [this];rfl
    rw [a_7 t7];cases b with
    |false=>simp_arith [evs]
    |true=>
     have i1:=ai_7 hf hm n (d_3 1 L (s:Int)) r (by omega) (by omega) (by omega) (by omega);have hc:=u_5 (fg:=gC 8) (p:=o_1) (f:=eVar 8) (δ:= [some (.lst (L.map .int)),some (.int leaf),some (.int (most:Int)),some (.lst (acc.map .int)),some (.int (s:Int)),some (.lst (r.map .int)),some (.lst ((d_3 0 L (s:Int)).map .int)),some (.bl true),none]) (fun d=>match d with| .int x=> !decide (x∈d_3 0 L (s:Int))|_=>false) (fun d=>d) (L.map .int) (fun d hd=>by
      obtain⟨x,hx,rfl⟩:=List.mem_map.mp hd;refine⟨[some (.lst (L.map .int)),some (.int leaf),some (.int (most:Int)),some (.lst (acc.map .int)),some (.int (s:Int)),some (.lst (r.map .int)),some (.lst ((d_3 0 L (s:Int)).map .int)),some (.bl true),some (.int x)],rfl, ?_,fun _=>⟨_,rfl,rfl⟩⟩
      simp_arith [o_1,evs,bz_1])
     have hcm:((L.map D.int).filter fun d=>match d with| .int x=> !decide (x∈d_3 0 L (s:Int))|_=>false).map (fun d=>d)=(d_3 1 L (s:Int)).map .int:=by
      rw [List.map_id',List.filter_map,←co_8];rfl
     rw [hcm] at hc;have ec:=j_2 (m:=1) (fi:=iOf (eVar 0)) (fg:=gC 8) (p:=o_1) (f:=eVar 8) (δ:= [some (.lst (L.map .int)),some (.int leaf),some (.int (most:Int)),some (.lst (acc.map .int)),some (.int (s:Int)),some (.lst (r.map .int)),some (.lst ((d_3 0 L (s:Int)).map .int)),some (.bl true)]) (ds:=L.map .int) (by simp_arith [evs]) (by rw [List.length_map];omega) hc;have t8:sIf [7] (tNotF (eTruth (eVar 7))) (sRet [5] (eLst (aCons (eC (.bl false)) (aCons (eVar 5) aNil)))) sNil [.sh (.lst (L.map .int)), .sh (.int leaf), .sh (.int (most:Int)), .sh (.lst (acc.map .int)), .sh (.int (s:Int)), .sh (.lst (r.map .int)), .sh (.lst ((d_3 0 L (s:Int)).map .int)), .sh (.bl true)]= .nx [.sh (.lst (L.map .int)), .sh (.int leaf), .sh (.int (most:Int)), .sh (.lst (acc.map .int)), .sh (.int (s:Int)), .sh (.lst (r.map .int)), .sh (.lst ((d_3 0 L (s:Int)).map .int)), .sh (.bl true)]:=by
      simp_arith [evs]
     rw [a_7 t8]
     simp_arith [evs,ec,i1]
def ad_3(n:Nat):Xn:=⟨"NoFit", ["at"], [.int (n:Int)]⟩
theorem ch_2(W:List D)(d:D):(W ++ [d])[(W ++ [d]).length - 1]? =some d∧(W ++ [d]).dropLast=W:=by
 constructor
 ·simp
 ·simp
section
variable{leaf:Int}{most:Nat}{L0:D}
abbrev stS(leaf:Int)(most:Nat)(L0:D)(acc:List Int)(W:List D)(a5 a6:Sl):SE:= [.sh L0, .sh (.int leaf), .sh (.int (most:Int)), .ow (.lst (acc.map .int)), .ow (.lst W),a5,a6]
theorem ap_9(acc:List Int)(W:List D)(a5 a6:Sl):h_0 (vall (stS leaf most L0 acc W a5 a6))= .ok (decide (0 < (W.length:Int))):=by
 have:vall (stS leaf most L0 acc W a5 a6)= [some L0,some (.int leaf),some (.int (most:Int)),some (.lst (acc.map .int)),some (.lst W),a5.any,a6.any]:=rfl;rw [this]
 simp_arith [h_0,evs,c_9,x_0]
theorem ai_8(hf:1≤leaf)(hm:most≤1000):∀(n:Nat) (L acc:List Int) (W:List D) (a5 a6:Sl),1≤L.length→L.length≤n→n≤100→acc.length + 2 * L.length≤10000→W.length + 2 * L.length≤10000→
  ((e_1 leaf most n L acc).1=true→∃(k:Nat) (b5 b6:Sl),k≤2 * L.length - 1∧∀m,h_2 [4] h_0 e_6 (m + k) (stS leaf most L0 acc (W ++ [.lst (L.map .int)]) a5 a6)=h_2 [4] h_0 e_6 m (stS leaf most L0 (e_1 leaf most n L acc).2 W b5 b6))∧
  ((e_1 leaf most n L acc).1=false→∃(k:Nat),k≤2 * L.length - 1∧∀m,∃Δ,h_2 [4] h_0 e_6 (m + k) (stS leaf most L0 acc (W ++ [.lst (L.map .int)]) a5 a6)= .ex (ad_3 (e_1 leaf most n L acc).2.length) Δ)
 |0,L,acc,W,a5,a6,h1,h2,_,_,_=>by omega
 |n + 1,L,acc,W,a5,a6,h1,h2,h3,h4,h5=>by
  have ht:h_0 (vall (stS leaf most L0 acc (W ++ [.lst (L.map .int)]) a5 a6))= .ok true:=by
   rw [ap_9,decide_eq_true (by rw [List.length_append];simp)]
  have hle:=ch_1 leaf hf most hm L h1 (by omega);obtain⟨p1,p2⟩:=ch_2 W (.lst (L.map .int));have u1:bg_5 5 4 (stS leaf most L0 acc (W ++ [.lst (L.map .int)]) a5 a6)= .nx (stS leaf most L0 acc W (.sh (.lst (L.map .int))) a6):=by
   unfold bg_5;show(match(W ++ [D.lst (L.map .int)])[(W ++ [D.lst (L.map .int)]).length - 1]? with|some d=>Fl.nx _|none=> .no)=_;rw [p1];show Fl.nx [_,_,_,_,Sl.ow (.lst (W ++ [D.lst (L.map .int)]).dropLast),_,_]=_;rw [p2]
  have u2:sSet 6 [1,2,5] (eFn 3 o_2 (aCons (eVar 5) (aCons (eVar 1) (aCons (eVar 2) aNil)))) (stS leaf most L0 acc W (.sh (.lst (L.map .int))) a6)= .nx (stS leaf most L0 acc W (.sh (.lst (L.map .int))) (.sh (bk_1 (m_4 leaf most L)))):=by
   simp_arith [evs,hle]
  unfold e_1;cases e:m_4 leaf most L with
  |none=>
   refine⟨fun z=>absurd z Bool.false_ne_true,fun _=>⟨1,by omega,fun m=> ?_⟩⟩;rw [e] at u2;have hb:∃Δ,e_6 (stS leaf most L0 acc (W ++ [.lst (L.map .int)]) a5 a6)= .ex (ad_3 acc.length) Δ:=by
    unfold e_6;rw [a_7 u1,a_7 u2];refine⟨[.sh L0, .sh (.int leaf), .sh (.int (most:Int)), .sh (.lst (acc.map .int)), .ow (.lst W), .sh (.lst (L.map .int)), .sh .non], ?_⟩
    simp_arith [evs,bk_1,q_2,c_9,List.length_map,ad_3]
   obtain⟨Δ,hb⟩:=hb;refine⟨Δ, ?_⟩;unfold h_2;rw [ht];simp only [if_true,hb]
  |some s=>
   obtain⟨hs,_,_⟩:=v_0 e;rw [e] at u2;have u3:sIf [6] (eTest (eOp (isND false) (eVar 6) (eC .non))) (q_2 "NoFit" "at" [3] (eCall k_2 (aCons (eVar 3) aNil))) sNil (stS leaf most L0 acc W (.sh (.lst (L.map .int))) (.sh (bk_1 (some s))))= .nx (stS leaf most L0 acc W (.sh (.lst (L.map .int))) (.sh (.int (s:Int)))):=by
    simp_arith [evs,bk_1]
   have hal:(acc.map D.int).length < 16777216:=by rw [List.length_map];omega
   have u4:sApp 3 (eVar 6) (stS leaf most L0 acc W (.sh (.lst (L.map .int))) (.sh (.int (s:Int))))= .nx (stS leaf most L0 (acc ++ [(s:Int)]) W (.sh (.lst (L.map .int))) (.sh (.int (s:Int)))):=by
    simp_arith [sApp,evs,hal]
    unfold stS;rw [List.map_append];rfl
   by_cases c:(L.length:Int)≤leaf
   ·simp only [c,if_true];refine⟨fun _=>⟨1,_,_,by omega,fun m=>y_5 ht (Δ':=stS leaf most L0 (acc ++ [(s:Int)]) W (.sh (.lst (L.map .int))) (.sh (.int (s:Int)))) ?_⟩,fun z=>by cases z⟩;unfold e_6;rw [a_7 u1,a_7 u2,a_7 u3,a_7 u4]
    simp_arith [evs,c_9,List.length_map,w_5 _ leaf hf,c,decide_true]
   ·obtain⟨e0,e1,_⟩:=ag_5 hf e c;have g1:=bc_0 L (s:Int) 1 (by omega) (by omega) (by omega);have g0:=bc_0 L (s:Int) 0 (by omega) (by omega) (by omega);have hW:W.length < 16777216:=by omega
    have hW1:(W ++ [D.lst ((d_3 1 L (s:Int)).map .int)]).length < 16777216:=by rw [List.length_append];simp;omega
    have hb:e_6 (stS leaf most L0 acc (W ++ [.lst (L.map .int)]) a5 a6)= .nx (stS leaf most L0 (acc ++ [(s:Int)]) ((W ++ [.lst ((d_3 1 L (s:Int)).map .int)]) ++ [.lst ((d_3 0 L (s:Int)).map .int)]) (.sh (.lst (L.map .int))) (.sh (.int (s:Int)))):=by
     unfold e_6;rw [a_7 u1,a_7 u2,a_7 u3,a_7 u4]
     simp_arith [evs,c_9,List.length_map,w_5 _ leaf hf,c,decide_false,sApp,hW,g1,hW1,g0]
    simp only [c,if_false];obtain⟨r0,r1⟩:=ai_8 hf hm n (d_3 0 L (s:Int)) (acc ++ [(s:Int)]) (W ++ [.lst ((d_3 1 L (s:Int)).map .int)]) (.sh (.lst (L.map .int))) (.sh (.int (s:Int))) (by omega) (by omega) (by omega) (by rw [List.length_append];simp;omega) (by rw [List.length_append];simp;omega);have il:=w_7 (most:=most) hf n (d_3 0 L (s:Int)) (acc ++ [(s:Int)]) (by omega);rw [List.length_append] at il;rcases hp:e_1 leaf most n (d_3 0 L (s:Int)) (acc ++ [(s:Int)]) with⟨b,r⟩
    rw [hp] at r0 r1 il;simp only [List.length_cons,List.length_nil] at il;cases b with
    |false=>
     obtain⟨k,hk,w⟩:=r1 rfl;refine⟨fun z=>absurd (show(false:Bool)=true from z) Bool.false_ne_true,fun _=>⟨k + 1,by omega,fun m=> ?_⟩⟩;obtain⟨Δ,w⟩:=w m;exact⟨Δ,(y_5 (n:=m + k) ht hb).trans w⟩
    |true=>
     obtain⟨k,b5,b6,hk,w⟩:=r0 rfl;obtain⟨s0,s1⟩:=ai_8 hf hm n (d_3 1 L (s:Int)) r W b5 b6 (by omega) (by omega) (by omega) (by omega) (by omega);refine⟨fun z=> ?_,fun z=> ?_⟩
     ·obtain⟨j,c5,c6,hj,w'⟩:=s0 z;refine⟨j + k + 1,c5,c6,by omega,fun m=> ?_⟩;rw [show m + (j + k + 1)=(m + j + k) + 1 by omega];exact((y_5 ht hb).trans (w (m + j))).trans (w' m)
     ·obtain⟨j,hj,w'⟩:=s1 z;refine⟨j + k + 1,by omega,fun m=> ?_⟩;obtain⟨Δ,w'⟩:=w' m;refine⟨Δ, ?_⟩;rw [show m + (j + k + 1)=(m + j + k) + 1 by omega];exact((y_5 ht hb).trans (w (m + j))).trans w'
end
theorem ch_3{leaf:Int}{most:Nat}(hf:1≤leaf)(hm:most≤1000)(n:Nat)(L:List Int)(h1:1≤L.length)(h2:L.length≤n)(h3:n≤100):
  i_6 [.lst (L.map .int), .int leaf, .int (most:Int)]=if(e_1 leaf most n L []).1=true then .ok (.ow (.lst ((e_1 leaf most n L []).2.map .int))) else .ex (ad_3 (e_1 leaf most n L []).2.length):=by
 have t1:sSet 3 [] (eLst aNil) (start3 7 [.lst (L.map .int), .int leaf, .int (most:Int)])= .nx [.sh (.lst (L.map .int)), .sh (.int leaf), .sh (.int (most:Int)), .ow (.lst []), .no, .no, .no]:=by
  simp_arith [evs]
 have t2:sSet 4 [0] (eLst (aCons (eVar 0) aNil)) [.sh (.lst (L.map .int)), .sh (.int leaf), .sh (.int (most:Int)), .ow (.lst []), .no, .no, .no]= .nx (stS leaf most (.lst (L.map .int)) [] ([] ++ [.lst (L.map .int)]) .no .no):=by
  simp_arith [evs]
  rfl
 obtain⟨r0,r1⟩:=ai_8 (L0:= .lst (L.map .int)) hf hm n L [] [] .no .no h1 h2 h3 (by simp;omega) (by simp;omega);cases hb:(e_1 leaf most n L []).1 with
 |true=>
  obtain⟨k,b5,b6,hk,w⟩:=r0 hb;have w:=w (3000 - k);rw [show 3000 - k + k=3000 by omega] at w;have we:h_2 [4] h_0 e_6 (3000 - k) (stS leaf most (.lst (L.map .int)) (e_1 leaf most n L []).2 [] b5 b6)= .nx (stS leaf most (.lst (L.map .int)) (e_1 leaf most n L []).2 [] b5 b6):=by
   rw [show 3000 - k=(2999 - k) + 1 by omega];exact ah_8 (by rw [ap_9];rfl)
  rw [if_pos rfl];refine l_4 ?_;unfold z_0;rw [a_7 t1,a_7 t2,a_7 (w.trans we)];rfl
 |false=>
  obtain⟨k,hk,w⟩:=r1 hb;obtain⟨Δ,w⟩:=w (3000 - k);rw [show 3000 - k + k=3000 by omega] at w;rw [if_neg Bool.false_ne_true];unfold i_6 bodyD z_0;rw [a_7 t1,a_7 t2];unfold sSeq;rw [w]
def m_1(n leaf:Int)(S:List Int):D:= .obj "Halved" ["how_many", "leaf", "salts"] [.int n, .int leaf, .lst (S.map .int)]
section
variable(n leaf:Int)(S:List Int)(r:List (Option D))
end
theorem cx_4(F:List D→R W):([("Halved",F)]:List (Str×(List D→R W))).lookup ("Halved" :Str)=some F:=by kernel_rfl
theorem aq_0{n leaf:Int}{S:List Int}(m:Str)(k:Nat)(F:List D→R W)(fo:FE)(fa:FA)(δ:DE)(ds:List D)(hm:(["how_many", "leaf", "salts"]:List Str).contains m=false)(h1:fo δ= .ok (.sh (m_1 n leaf S)))(h2:fa δ= .ok ds)(h3:ds.length=k):y_3 m k [("Halved",F)] fo fa δ=F (m_1 n leaf S::ds):=by
 unfold m_1 at h1⊢;simp only [y_3,h1,R.bind_ok,W.d_sh,hm,Bool.false_eq_true,if_false,cx_4,h2,h3,if_true]
theorem ch_4(t:Tn):Sl.pub (.lt t)=none:=rfl
theorem bu_0{Δ:SE}{i:Nat}{cs:List Str}{f c:Str}{js:List Nat}{fe:FE}{ns:List Str}{ts:List Tn}{w:W}(hg:gsome js Δ=Δ)(h0:Δ[i]? =some (.lt (.obj c ns ts)))(hc:cs.contains c=true∧ns.contains f=false∧ns.length < 1000)(he:fe (vsh Δ)= .ok w):
  y_4 i cs f js fe Δ= .nx (Δ.set i (.lt (.obj c (ns ++ [f]) (ts ++ [.sh w.d])))):=by
 unfold y_4;rw [hg];simp only [h0,he,if_pos hc]
theorem bz_2(d:D):b_9 [d]= .ok (["how_many"], [d]):=by
 kernel_rfl
theorem ch_5{Δ:SE}{i:Nat}{c:Str}{js:List Nat}{F:List D→R (List Str×List D)}{fe:FE}{w:W}{p:List Str×List D}(hg:gsome js Δ=Δ)(h0:Δ[i]? =some (.lt (.obj c [] [])))(he:fe (vsh Δ)= .ok w)(hF:F [w.d]= .ok p):
  w_0 i c js F fe Δ= .nx (Δ.set i (.lt (.obj c p.1 (p.2.map .sh)))):=by
 unfold w_0;rw [hg];simp only [h0,he,hF,if_true]
theorem co_9{ks:List D}(hk:∀k∈ks,isKey k):neD (.lst ks) (.lst ks)= .ok (.sh (.bl false)):=by
 obtain⟨b,hb,_,e⟩:=ap_5 hk hk;have:b=true:=hb.mpr rfl;subst this;exact e
theorem aq_1(ks:List D):(ks.map fun d=>D.int (g_0 d))=(ks.map g_0).map .int:=by rw [List.map_map];rfl
theorem bu_1{ks:List D}{leaf:Int}{most:Nat}(hk:∀k∈ks,isKey k)(nd:ks.Nodup)(h1:1≤ks.length)(h2:ks.length≤100)(hf:1≤leaf)(hm:most≤1000){b:Bool}{S:List Int}(hp:e_1 leaf most 100 (ks.map g_0) []=(b,S)):
  f_1 [.lst ks, .int leaf, .int (most:Int)]=if b=true then .ok (["how_many", "leaf", "salts"], [.int (ks.length:Int), .int leaf, .lst (S.map .int)]) else .ex (ad_3 S.length):=by
 have lk:=co_1 hk nd h1 (by omega);have hs:=ch_3 hf hm 100 (ks.map g_0) (by rw [List.length_map];exact h1) (by rw [List.length_map];exact h2) (by decide);rw [hp] at hs;simp only at hs;unfold f_1 ao_5 o_4;have q1:w_0 0 "Halved" [1] b_9 (eFn 1 c_4 (aCons (eVar 1) aNil)) (t_4 4 "Halved" [.lst ks, .int leaf, .int (most:Int)])= .nx [.lt (.obj "Halved" ["how_many"] [.sh (.int (ks.length:Int))]), .sh (.lst ks), .sh (.int leaf), .sh (.int (most:Int))]:=by
  refine ch_5 (w:= .sh (.int (ks.length:Int))) (p:=(["how_many"], [.int (ks.length:Int)])) rfl rfl ?_ (bz_2 _);exact lk
 have q2:y_4 0 ["Halved"] "leaf" [2] (eVar 2) [.lt (.obj "Halved" ["how_many"] [.sh (.int (ks.length:Int))]), .sh (.lst ks), .sh (.int leaf), .sh (.int (most:Int))]= .nx [.lt (.obj "Halved" ["how_many", "leaf"] [.sh (.int (ks.length:Int)), .sh (.int leaf)]), .sh (.lst ks), .sh (.int leaf), .sh (.int (most:Int))]:=
  bu_0 (w:= .sh (.int leaf)) (c:= "Halved") (ns:= ["how_many"]) (ts:= [.sh (.int (ks.length:Int))]) rfl rfl (by decide +kernel) rfl
 have ec:=j_2 (m:=1) (fi:=iOf (eVar 1)) (fg:=gC 4) (p:=fun _=> .ok true) (f:=f_3) (δ:= [none,some (.lst ks),some (.int leaf),some (.int (most:Int))]) (ds:=ks) (by simp_arith [evs]) (by omega)
  (r_8 (fun d=> .int (g_0 d)) ks fun d hd=>⟨[none,some (.lst ks),some (.int leaf),some (.int (most:Int)),some d], .sh (.int (g_0 d)),rfl,by simp_arith [f_3,evs,cg_0 (hk d hd)],rfl⟩)
 rw [aq_1] at ec;rw [a_7 q1,a_7 q2];cases b with
 |true=>
  rw [if_pos rfl] at hs;have q3:y_4 0 ["Halved"] "salts" [1,2,3] (eFn 3 i_6 (aCons (e_8 1 (iOf (eVar 1)) (gC 4) (fun _=> .ok true) f_3) (aCons (eVar 2) (aCons (eVar 3) aNil)))) [.lt (.obj "Halved" ["how_many", "leaf"] [.sh (.int (ks.length:Int)), .sh (.int leaf)]), .sh (.lst ks), .sh (.int leaf), .sh (.int (most:Int))]=
    .nx [.lt (.obj "Halved" ["how_many", "leaf", "salts"] [.sh (.int (ks.length:Int)), .sh (.int leaf), .sh (.lst (S.map .int))]), .sh (.lst ks), .sh (.int leaf), .sh (.int (most:Int))]:=by
   refine bu_0 (w:= .ow (.lst (S.map .int))) (c:= "Halved") (ns:= ["how_many", "leaf"]) (ts:= [.sh (.int (ks.length:Int)), .sh (.int leaf)]) rfl rfl (by decide +kernel) ?_
   simp_arith [evs,ch_4,ec,hs]
  rw [q3];simp only [List.getElem?_cons_zero,if_true,unT,Option.map_some]
 |false=>
  rw [if_neg Bool.false_ne_true] at hs;have q3:y_4 0 ["Halved"] "salts" [1,2,3] (eFn 3 i_6 (aCons (e_8 1 (iOf (eVar 1)) (gC 4) (fun _=> .ok true) f_3) (aCons (eVar 2) (aCons (eVar 3) aNil)))) [.lt (.obj "Halved" ["how_many", "leaf"] [.sh (.int (ks.length:Int)), .sh (.int leaf)]), .sh (.lst ks), .sh (.int leaf), .sh (.int (most:Int))]=
    .ex (ad_3 S.length) [.lt (.obj "Halved" ["how_many", "leaf"] [.sh (.int (ks.length:Int)), .sh (.int leaf)]), .sh (.lst ks), .sh (.int leaf), .sh (.int (most:Int))]:=by
   have he:eFn 3 i_6 (aCons (e_8 1 (iOf (eVar 1)) (gC 4) (fun _=> .ok true) f_3) (aCons (eVar 2) (aCons (eVar 3) aNil))) (vsh (gsome [1,2,3] [.lt (.obj "Halved" ["how_many", "leaf"] [.sh (.int (ks.length:Int)), .sh (.int leaf)]), .sh (.lst ks), .sh (.int leaf), .sh (.int (most:Int))]))= .ex (ad_3 S.length):=by
    simp_arith [evs,ch_4,ec,hs]
   unfold y_4;rw [he];rfl
  rw [q3];rfl
theorem z_6{leaf:Int}{most:Nat}(hf:1≤leaf):∀(n m:Nat) (L acc:List Int),1≤L.length→L.length≤n→L.length≤m→e_1 leaf most n L acc=e_1 leaf most m L acc
 |0,_,L,acc,h1,h2,_=>by omega
 |_,0,L,acc,h1,_,h3=>by omega
 |n + 1,m + 1,L,acc,h1,h2,h3=>by
  unfold e_1;cases e:m_4 leaf most L with
  |none=>rfl
  |some s=>
   by_cases c:(L.length:Int)≤leaf
   ·simp only [c,if_true]
   ·obtain⟨e0,e1,_⟩:=ag_5 hf e c;simp only [c,if_false];rw [z_6 hf n m (d_3 0 L (s:Int)) _ (by omega) (by omega) (by omega)];rcases e_1 leaf most m (d_3 0 L (s:Int)) (acc ++ [(s:Int)]) with⟨b,r⟩
    cases b with
    |false=>rfl
    |true=>exact z_6 hf n m (d_3 1 L (s:Int)) r (by omega) (by omega) (by omega)
theorem ch_6:(["how_many", "leaf", "salts"]:List Str).contains "number_of" =false:=by decide +kernel
theorem cx_5:(["how_many", "leaf", "salts"]:List Str).contains "room" =false:=by decide +kernel
theorem cp_0:(["how_many", "leaf", "salts"]:List Str).contains "rooms" =false:=by decide +kernel
theorem bz_3{L a b:D}{p:List Str×List D}(h:f_1 [L,a,b]= .ok p):g_6 [L,a,b]= .ok (.sh .non):=by
 have hm:aj_8 "Halved" 3 f_1 (aCons (eVar 0) (aCons (eVar 1) (aCons (eVar 2) aNil))) [some L,some a,some b,some .non,none]= .ok (.sh (.obj "Halved" p.1 p.2)):=by
  unfold aj_8;rw [show(aCons (eVar 0) (aCons (eVar 1) (aCons (eVar 2) aNil))) [some L,some a,some b,some D.non,none]= .ok [L,a,b] from rfl,R.bind_ok,if_pos (show [L,a,b].length=3 from rfl),h];rfl
 have hb:l_6 [.sh L, .sh a, .sh b, .sh .non, .no]= .nx [.sh L, .sh a, .sh b, .sh .non, .no]:=by
  simp_arith [l_6,evs,hm]
 have e:s_2 [.sh L, .sh a, .sh b, .no, .no]= .rt (.sh .non):=by
  unfold s_2;refine(a_7 (Δ':= [.sh L, .sh a, .sh b, .sh .non, .no]) rfl).trans ((a_7 (Δ':= [.sh L, .sh a, .sh b, .sh .non, .no]) ?_).trans rfl);unfold aj_9;rw [hb]
 unfold g_6 bodyD;rw [show start3 5 [L,a,b]= [.sh L, .sh a, .sh b, .no, .no] from rfl,e]
theorem ch_7{ks:List D}(hk:∀k∈ks,isKey k):eqD (.lst ks) (.lst ks)= .ok (.sh (.bl true)):=by
 obtain⟨b,hb,e,_⟩:=ap_5 hk hk;have:b=true:=hb.mpr rfl;subst this;exact e
theorem ad_4{ks:List D}{leaf:Int}{most:Nat}(hk:∀k∈ks,isKey k)(nd:ks.Nodup)(h1:1≤ks.length)(h2:ks.length≤69)(hf:1≤leaf)(hm:most≤1000):d_0 [.lst ks, .int leaf, .int (most:Int)]= .ok (.sh (.bl true)):=by
 have hpl:(ks.map g_0).length=ks.length:=List.length_map _;rcases hp:e_1 leaf most 70 (ks.map g_0) [] with⟨b,S⟩
 have bz:e_1 leaf most 100 (ks.map g_0) []=(b,S):=(z_6 hf 100 70 _ _ (by omega) (by omega) (by omega)).trans hp;have hpt:=ai_7 hf hm 70 (ks.map g_0) [] (by omega) (by omega) (by omega) (by simp;omega);rw [hp] at hpt;simp only [List.map_nil] at hpt;have aq:=bu_1 hk nd h1 (by omega) hf hm bz;have due:=cg_8 hk nd h1 (by omega);have hn:=co_9 hk;have hq:=ch_7 hk;refine l_4 ?_;unfold s_9;generalize f_0 70=FP at hpt⊢;have ec:=j_2 (m:=1) (fi:=iOf (eVar 0)) (fg:=gC 8) (p:=fun _=> .ok true) (f:=j_5) (δ:= [some (.lst ks),some (.int leaf),some (.int (most:Int)),none,some .non,none,none,none]) (ds:=ks) (by simp_arith [evs]) (by omega)
  (r_8 (fun d=> .int (g_0 d)) ks fun d hd=>⟨[some (.lst ks),some (.int leaf),some (.int (most:Int)),none,some .non,none,none,none,some d], .sh (.int (g_0 d)),rfl,by simp_arith [j_5,evs,w_4 (hk d hd)],rfl⟩)
 rw [aq_1] at ec;have he:eFn 4 FP (aCons (e_8 1 (iOf (eVar 0)) (gC 8) (fun _=> .ok true) j_5) (aCons (eVar 1) (aCons (eVar 2) (aCons (eLst aNil) aNil)))) [some (.lst ks),some (.int leaf),some (.int (most:Int)),none,some .non,none,none,none]= .ok (.ow (.lst [.bl b, .lst (S.map .int)])):=by
  simp_arith [evs,ec,hpt]
 have tu:sUnp (gP 6 7) [0,1,2] (eFn 4 FP (aCons (e_8 1 (iOf (eVar 0)) (gC 8) (fun _=> .ok true) j_5) (aCons (eVar 1) (aCons (eVar 2) (aCons (eLst aNil) aNil))))) [.sh (.lst ks), .sh (.int leaf), .sh (.int (most:Int)), .ow (.lst ks), .sh .non, .no, .no, .no]= .nx [.sh (.lst ks), .sh (.int leaf), .sh (.int (most:Int)), .ow (.lst ks), .sh .non, .no, .sh (.bl b), .sh (.lst (S.map .int))]:=by
  unfold sUnp;show(match eFn 4 FP (aCons (e_8 1 (iOf (eVar 0)) (gC 8) (fun _=> .ok true) j_5) (aCons (eVar 1) (aCons (eVar 2) (aCons (eLst aNil) aNil)))) [some (.lst ks),some (.int leaf),some (.int (most:Int)),none,some .non,none,none,none] with| .ok w=>_| .ex x=>_| .no=>_)=_;rw [he];rfl
 have s1:sSet 3 [0] (eCall an_9 (aCons (eVar 0) aNil)) (start3 8 [.lst ks, .int leaf, .int (most:Int)])= .nx [.sh (.lst ks), .sh (.int leaf), .sh (.int (most:Int)), .ow (.lst ks), .no, .no, .no, .no]:=by
  simp_arith [evs,an_9]
 have s2:sSet 4 [0] (eFn 1 i_4 (aCons (eVar 0) aNil)) [.sh (.lst ks), .sh (.int leaf), .sh (.int (most:Int)), .ow (.lst ks), .no, .no, .no, .no]= .nx [.sh (.lst ks), .sh (.int leaf), .sh (.int (most:Int)), .ow (.lst ks), .sh .non, .no, .no, .no]:=by
  simp_arith [evs,due]
 rw [a_7 s1,a_7 s2];cases b with
 |true=>
  rw [if_pos rfl] at aq;have av:=bz_3 aq;refine(a_7 (Δ':= [.sh (.lst ks), .sh (.int leaf), .sh (.int (most:Int)), .ow (.lst ks), .sh .non, .no, .sh (.bl true), .sh (.lst (S.map .int))]) ?_).trans ?_
  ·unfold sIf;rw [show eTest (eOp (isND false) (eVar 4) (eC .non)) (vall [.sh (.lst ks), .sh (.int leaf), .sh (.int (most:Int)), .ow (.lst ks), .sh .non, .no, .no, .no])= .ok true from rfl];show sSeq _ _ _=_;rw [a_7 tu]
   simp_arith [evs]
  refine(a_7 (Δ':= [.sh (.lst ks), .sh (.int leaf), .sh (.int (most:Int)), .ow (.lst ks), .sh .non, .sh .non, .sh (.bl true), .sh (.lst (S.map .int))]) (by simp_arith [evs,av])).trans ?_
  simp_arith [evs,hn,hq]
 |false=>
  rw [if_neg Bool.false_ne_true] at aq;have av:=ch_0 (n:=(S.length:Int)) aq;have hee:eqD (.lst [.str "fit", .int (S.length:Int), .int 1]) (.lst [.str "fit", .int (S.length:Int), .int 1])= .ok (.sh (.bl true)):=ap_3 1 (by show([D.str "fit", .int (S.length:Int), .int 1].all (okD 0))=true;simp only [List.all_cons,List.all_nil,show okD 0 (.str "fit")=true by decide +kernel,Bool.and_true];rfl);refine(a_7 (Δ':= [.sh (.lst ks), .sh (.int leaf), .sh (.int (most:Int)), .ow (.lst ks), .ow (.lst [.str "fit", .int (S.length:Int)]), .no, .sh (.bl false), .sh (.lst (S.map .int))]) ?_).trans ?_
  ·unfold sIf;rw [show eTest (eOp (isND false) (eVar 4) (eC .non)) (vall [.sh (.lst ks), .sh (.int leaf), .sh (.int (most:Int)), .ow (.lst ks), .sh .non, .no, .no, .no])= .ok true from rfl];show sSeq _ _ _=_;rw [a_7 tu]
   simp_arith [evs,c_9,List.length_map]
  refine(a_7 (Δ':= [.sh (.lst ks), .sh (.int leaf), .sh (.int (most:Int)), .sh (.lst ks), .ow (.lst [.str "fit", .int (S.length:Int)]), .ow (.lst [.str "fit", .int (S.length:Int), .int 1]), .sh (.bl false), .sh (.lst (S.map .int))]) (by simp_arith [evs,av])).trans ?_;refine(a_7 (by simp_arith [evs,hn];rfl)).trans ?_
  simp_arith [evs,b_6,List.cons_append,List.nil_append,hee]
  rfl
theorem bc_1{α:Type}(l:List α)(a b:Option Int):(q_1 l a b).length≤l.length:=by
 unfold q_1;rw [List.length_take,List.length_drop];omega
theorem bc_2{α:Type}{l:List α}{a b:Option Int}{x:α}(h:x∈q_1 l a b):x∈l:=List.mem_of_mem_drop (List.mem_of_mem_take h)
theorem aw_3(z:Int)(h0:0≤z)(h1:z≤999999999999999999):n_4 (.int z):= .inl (.inl ⟨z,rfl,h0,h1⟩)
theorem bk_3{n:Nat}(hn:n≤1000):∀d∈d_8 0 n,n_4 d:=fun d hd=>by
 unfold d_8 at hd;obtain⟨k,hk,rfl⟩:=List.mem_map.mp hd;have:=List.mem_range.mp hk;exact aw_3 _ (by omega) (by omega)
def bk_4(xs:List D):Prop:=(∀d∈xs,n_4 d)∧(xs.length≤69∨200 < xs.length)
theorem bk_5{ks:List D}(hk:∀k∈ks,isKey k)(h1:1≤ks.length)(h2:ks.length≤30)(c:Int):∃xs,bk_4 xs∧∃w,k_5 [.lst ks, .int c]= .ok w∧(w= .sh (.lst xs)∨w= .ow (.lst xs)):=by
 have m6:=e_3 (i:=c) (show(0:Int) < 6 by decide);have d6:=j_6 (i:=c) (show(0:Int) < 6 by decide) (by decide);have d60:=j_6 (i:=c) (show(0:Int) < 60 by decide) (by decide);have dv:=j_6 (i:=c) (show(0:Int) < 120 by decide) (by decide);have da:=j_6 (i:=c) (show(0:Int) < 300 by decide) (by decide);have m9:=fun i:Int=>e_3 (i:=i) (show(0:Int) < 9 by decide);have m2:=fun i:Int=>e_3 (i:=i) (show(0:Int) < 2 by decide);have ml:=fun i:Int=>e_3 (i:=i) (show(0:Int) < (ks.length:Int) by omega);have mk:=fun i:Int=>e_3 (i:=i) (show(0:Int) < (ks.length:Int) + 1 by omega);obtain⟨bd,hbd,ebd⟩:=ap_7 (c / 300);have hbt:n_4 bd:= .inr hbd;have hkt:∀k∈ks,n_4 k:=fun k h=> .inl (hk k h);have s1:sSet 2 [1] (eOp d_7 (eVar 1) (eC (.int 6))) (start3 6 [.lst ks, .int c])= .nx [.sh (.lst ks), .sh (.int c), .sh (.int (c % 6)), .no, .no, .no]:=by
  simp_arith [evs,m6]
 generalize hat:c / 6 % ((ks.length:Int) + 1)=at_;have s2:sSet 3 [0,1] (eOp d_7 (eOp h_1 (eVar 1) (eC (.int 6))) (eOp b_6 (eCall k_2 (aCons (eVar 0) aNil)) (eC (.int 1)))) [.sh (.lst ks), .sh (.int c), .sh (.int (c % 6)), .no, .no, .no]= .nx [.sh (.lst ks), .sh (.int c), .sh (.int (c % 6)), .sh (.int at_), .no, .no]:=by
  simp_arith [evs,d6,c_9,f_5,mk,hat]
 have s3:sSet 4 [1] (eFn 1 h_7 (aCons (eOp h_1 (eVar 1) (eC (.int 300))) aNil)) [.sh (.lst ks), .sh (.int c), .sh (.int (c % 6)), .sh (.int at_), .no, .no]= .nx [.sh (.lst ks), .sh (.int c), .sh (.int (c % 6)), .sh (.int at_), .sh bd, .no]:=by
  simp_arith [evs,da,ebd]
 have pre:∀(r:Fl),(∀g,sSeq (sSet 2 [1] (eOp d_7 (eVar 1) (eC (.int 6)))) (sSeq (sSet 3 [0,1] (eOp d_7 (eOp h_1 (eVar 1) (eC (.int 6))) (eOp b_6 (eCall k_2 (aCons (eVar 0) aNil)) (eC (.int 1))))) (sSeq (sSet 4 [1] (eFn 1 h_7 (aCons (eOp h_1 (eVar 1) (eC (.int 300))) aNil))) g)) (start3 6 [.lst ks, .int c])=g [.sh (.lst ks), .sh (.int c), .sh (.int (c % 6)), .sh (.int at_), .sh bd, .no]):=fun _ g=>by
  rw [a_7 s1,a_7 s2,a_7 s3]
 have cat:∀x y:List D,x.length + y.length≤10000→b_6 (.lst x) (.lst y)= .ok (.ow (.lst (x ++ y))):=fun x y h=>ae_9 (by omega);have la:=bc_1 ks none (some at_);have lb:=bc_1 ks (some at_) none;have two:∀x y:List D,(∀d∈x,n_4 d)→(∀d∈y,n_4 d)→∀d∈x ++ y,n_4 d:=fun x y hx hy d hd=>by
  rcases List.mem_append.mp hd with h|h
  ·exact hx d h
  ·exact hy d h
 have ta:∀d∈q_1 ks none (some at_),n_4 d:=fun d hd=>hkt d (bc_2 hd);have tb:∀d∈q_1 ks (some at_) none,n_4 d:=fun d hd=>hkt d (bc_2 hd);have t1:∀a,n_4 a→∀d∈ [a],n_4 d:=fun a ha d hd=>by rw [List.mem_singleton.mp hd];exact ha
 have at1:∀z:Int,∃x,n_4 x∧ixD (.lst ks) (.int (z % (ks.length:Int)))= .ok (.sh x):=fun z=>by
  have b0:=Int.emod_nonneg z (show(ks.length:Int)≠0 by omega);have b1:=Int.emod_lt_of_pos z (show(0:Int) < (ks.length:Int) by omega);have hz:(z % (ks.length:Int)).toNat < ks.length:=by omega
  exact⟨_,hkt _ (List.getElem_mem hz),g_8 (az_3 b0 (List.getElem?_eq_getElem hz))⟩
 have no:∀(f k:Int) (g:FS),f≠k→sIf [2] (eTest (eOp eqD (eVar 2) (eC (.int k)))) g sNil [.sh (.lst ks), .sh (.int c), .sh (.int f), .sh (.int at_), .sh bd, .no]= .nx [.sh (.lst ks), .sh (.int c), .sh (.int f), .sh (.int at_), .sh bd, .no]:=fun f k g h=>by
  simp_arith [evs,e_4,h,decide_false]
 have yes:∀(k:Int) (g h:FS) (w:W),g [.sh (.lst ks), .sh (.int c), .sh (.int k), .sh (.int at_), .sh bd, .no]= .rt w→sSeq (sIf [2] (eTest (eOp eqD (eVar 2) (eC (.int k)))) g sNil) h [.sh (.lst ks), .sh (.int c), .sh (.int k), .sh (.int at_), .sh bd, .no]= .rt w:=fun k g h w e=>by
  have:sIf [2] (eTest (eOp eqD (eVar 2) (eC (.int k)))) g sNil [.sh (.lst ks), .sh (.int c), .sh (.int k), .sh (.int at_), .sh bd, .no]= .rt w:=by
   unfold sIf;rw [show eTest (eOp eqD (eVar 2) (eC (.int k))) (vall [.sh (.lst ks), .sh (.int c), .sh (.int k), .sh (.int at_), .sh bd, .no])= .ok true by
    rw [show vall [.sh (.lst ks), .sh (.int c), .sh (.int k), .sh (.int at_), .sh bd, .no]= [some (.lst ks),some (.int c),some (.int k),some (.int at_),some bd,none] from rfl]
    simp_arith [evs,e_4,decide_true]]
   exact e
  unfold sSeq;rw [this]
 suffices H:∃xs,bk_4 xs∧∃w,s_0 (start3 6 [.lst ks, .int c])= .rt w∧(w= .sh (.lst xs)∨w= .ow (.lst xs)) by
  obtain⟨xs,hx,w,e,hw⟩:=H;exact⟨xs,hx,w,l_4 e,hw⟩
 unfold s_0;rw [pre .no];have bb:∀x:List D,(∀d∈x,n_4 d)→x.length≤69→bk_4 x:=fun x h l=>⟨h, .inl l⟩;rcases(show c % 6=0∨c % 6=1∨c % 6=2∨c % 6=3∨c % 6=4∨c % 6=5 by omega) with h|h|h|h|h|h <;> rw [h]
 ·have hr:p_1 [.int (201 + c / 6 % 9)]= .ok (d_8 0 (201 + c / 6 % 9).toNat):=af_0 (by omega) (by omega);have hl:(d_8 0 (201 + c / 6 % 9).toNat).length=(201 + c / 6 % 9).toNat:=p_0 _ _;obtain⟨q,hq,eq⟩:∃q:List D,(q= []∨q= [bd])∧repD [bd] (.int (c / 60 % 2))= .ok (.ow (.lst q)):=by
   rcases(show c / 60 % 2=0∨c / 60 % 2=1 by omega) with e|e <;> rw [e]
   ·exact⟨[], .inl rfl,rfl⟩
   ·exact⟨[bd], .inr rfl,rfl⟩
  have hql:q.length≤1:=by rcases hq with rfl|rfl <;> simp
  have hqt:∀d∈q,n_4 d:=by
   rcases hq with rfl|rfl
   ·intro d hd;simp at hd
   ·exact t1 bd hbt
  have hc:=cat (d_8 0 (201 + c / 6 % 9).toNat) q (by omega);have hl2:(d_8 0 (201 + c / 6 % 9).toNat).length≤16777216:=by omega
  obtain⟨xs,hx,ex⟩:∃xs,bk_4 xs∧ixD (.lst [.lst [], .lst (d_8 0 (201 + c / 6 % 9).toNat ++ q)]) (.int (c / 120 % 2))= .ok (.sh (.lst xs)):=by
   rcases(show c / 120 % 2=0∨c / 120 % 2=1 by omega) with e|e <;> rw [e]
   ·exact⟨[],⟨fun d hd=>by simp at hd, .inl (by simp)⟩,g_8 (m_0 (i:=0) rfl)⟩
   ·exact⟨_,⟨two _ _ (bk_3 (by omega)) hqt, .inr (by rw [List.length_append,hl];omega)⟩,g_8 (m_0 (i:=1) rfl)⟩
  refine⟨xs,hx, .sh (.lst xs),yes _ _ _ _ ?_, .inl rfl⟩
  simp_arith [evs,eRng,d6,m9,f_5,hr,hl2,eRep,d60,m2,eq,hc,dv,ex]
 ·have hl:(d_8 0 201).length=201:=p_0 _ _;have hc:=r_8 (fg:=gC 6) (f:=l_5) (δ:= [some (.lst ks),some (.int c),some (.int 1),some (.int at_),some bd,none,none]) (fun d=>match d with| .int z=> .int (z % 200)|d=>d) (d_8 0 201) (fun d hd=>by
   unfold d_8 at hd;obtain⟨k,_,rfl⟩:=List.mem_map.mp hd;refine⟨[some (.lst ks),some (.int c),some (.int 1),some (.int at_),some bd,none,some (.int (0 + (k:Int)))], .sh (.int ((0 + (k:Int)) % 200)),rfl, ?_,rfl⟩
   simp_arith [l_5,evs,e_3 (show(0:Int) < 200 by decide)])
  have ec:=j_2 (m:=1) (fi:=iArgs p_1 (aCons (eC (.int 201)) aNil)) (fg:=gC 6) (p:=fun _=> .ok true) (f:=l_5) (δ:= [some (.lst ks),some (.int c),some (.int 1),some (.int at_),some bd,none]) (ds:=d_8 0 201) rfl (by rw [hl];omega) hc;refine⟨_,⟨?_, .inr ?_⟩, .ow (.lst _),(a_7 (no 1 0 _ (by decide))).trans (yes _ _ _ _ (by simp_arith [evs,ec];rfl)), .inr rfl⟩
  ·intro d hd;obtain⟨e,he,rfl⟩:=List.mem_map.mp hd;unfold d_8 at he;obtain⟨k,hk,rfl⟩:=List.mem_map.mp he;exact aw_3 _ (by omega) (by omega)
  ·rw [List.length_map,hl];decide
 ·have c1:=cat (q_1 ks none (some at_)) [bd] (by simp;omega);have c2:=cat (q_1 ks none (some at_) ++ [bd]) (q_1 ks (some at_) none) (by simp;omega);refine⟨_,bb _ (two _ _ (two _ _ ta (t1 bd hbt)) tb) (by simp;omega), .ow (.lst _),(a_7 (no 2 0 _ (by decide))).trans ((a_7 (no 2 1 _ (by decide))).trans (yes _ _ _ _ (by simp_arith [evs,eSlice,r_6,c1,c2]))), .inr rfl⟩
 ·obtain⟨x,hx,ex⟩:=at1 0;rw [Int.zero_emod] at ex;have c1:=cat (q_1 ks none (some at_)) [bd] (by simp;omega);have c2:=cat (q_1 ks none (some at_) ++ [bd]) (q_1 ks (some at_) none) (by simp;omega);have c3:=cat (q_1 ks none (some at_) ++ [bd] ++ q_1 ks (some at_) none) [bd,x] (by simp;omega);refine⟨_,bb _ (two _ _ (two _ _ (two _ _ ta (t1 bd hbt)) tb) (two [bd] [x] (t1 bd hbt) (t1 x hx))) (by simp;omega), .ow (.lst _),(a_7 (no 3 0 _ (by decide))).trans ((a_7 (no 3 1 _ (by decide))).trans ((a_7 (no 3 2 _ (by decide))).trans (yes _ _ _ _ (by simp_arith [evs,eSlice,r_6,c1,c2,ex,c3])))), .inr rfl⟩
 ·obtain⟨x,hx,ex⟩:=at1 (c / 60);have c1:=cat (q_1 ks none (some at_)) [x] (by simp;omega);have c2:=cat (q_1 ks none (some at_) ++ [x]) (q_1 ks (some at_) none) (by simp;omega);refine⟨_,bb _ (two _ _ (two _ _ ta (t1 x hx)) tb) (by simp;omega), .ow (.lst _),(a_7 (no 4 0 _ (by decide))).trans ((a_7 (no 4 1 _ (by decide))).trans ((a_7 (no 4 2 _ (by decide))).trans ((a_7 (no 4 3 _ (by decide))).trans (yes _ _ _ _ (by simp_arith [evs,eSlice,r_6,d60,c_9,ml,ex,c1,c2]))))), .inr rfl⟩
 ·have lc:=bc_1 ks none (some (1 + c / 60 % (ks.length:Int)));have c1:=cat ks (q_1 ks none (some (1 + c / 60 % (ks.length:Int)))) (by omega);refine⟨ks ++ q_1 ks none (some (1 + c / 60 % (ks.length:Int))),bb _ (two _ _ hkt (fun d hd=>hkt d (bc_2 hd))) (by rw [List.length_append];omega), .ow (.lst _),(a_7 (no 5 0 _ (by decide))).trans ((a_7 (no 5 1 _ (by decide))).trans ((a_7 (no 5 2 _ (by decide))).trans ((a_7 (no 5 3 _ (by decide))).trans ((a_7 (no 5 4 _ (by decide))).trans (by simp_arith [evs,eSlice,r_6,d60,c_9,ml,f_5,c1]))))), .inr rfl⟩
theorem bc_3{js:List Nat}{f:FE}{Δ:SE}{x:Xn}(hv:vall Δ=vsh Δ)(hg:gsome js Δ=Δ)(h:f (vsh Δ)= .ex x):sExpr js f Δ= .ex x Δ:=by
 unfold sExpr;rw [hv,h];simp only [exG,hg,h]
theorem cx_6{js:List Nat}{f:FE}{Δ:SE}{x:Xn}(hv:vall Δ=vsh Δ)(hg:gsome js Δ=Δ)(h:f (vsh Δ)= .ex x):sRet js f Δ= .ex x Δ:=by
 unfold sRet;rw [hv,h];simp only [exG,hg,h]
theorem ch_8{d:D}(h:x_1 d):o_3 [d]= .ex (j_7 0):=by
 simp_arith [o_3,am_4,evs,av_9 h,q_2,j_7]
 rfl
theorem bz_4{d:D}{n leaf:Int}{S:List Int}(h:x_1 d):c_6 [m_1 n leaf S,d]= .ex (j_7 0):=by
 generalize m_1 n leaf S=M;have e:sSet 2 [1] (eFn 1 o_3 (aCons (eVar 1) aNil)) (start3 7 [M,d])= .ex (j_7 0) (start3 7 [M,d]):=by
  have:eFn 1 o_3 (aCons (eVar 1) aNil) (vsh (start3 7 [M,d]))= .ex (j_7 0):=by
   rw [←ch_8 h];rfl
  unfold sSet;rw [this]
 unfold c_6 bodyD s_3 sSeq;rw [e]
theorem cp_1{d:D}{n leaf:Int}{S:List Int}(h:x_1 d):e_0 [m_1 n leaf S,d]= .ex (j_7 0):=by
 have hm:=aq_0 (n:=n) (leaf:=leaf) (S:=S) "number_of" 1 c_6 (eVar 0) (aCons (eVar 1) aNil) [some (m_1 n leaf S),some d] [d] ch_6 rfl rfl rfl;rw [bz_4 h] at hm;generalize m_1 n leaf S=M at *
 have e:eCall minD (aCons (y_3 "number_of" 1 [("Halved",c_6)] (eVar 0) (aCons (eVar 1) aNil)) (aCons (eOp subD (eFld ["Halved"] "how_many" (eVar 0)) (eC (.int 1))) aNil)) [some M,some d]= .ex (j_7 0):=by
  unfold eCall;rw [show∀(f:FE) (fa:FA) (δ:DE),aCons f fa δ=(f δ).bind fun w=>(fa δ).bind fun ds=> .ok (w.d::ds) from fun _ _ _=>rfl,hm];rfl
 have e2:ab_8 (start3 2 [M,d])= .ex (j_7 0) (start3 2 [M,d]):=by
  exact cx_6 rfl rfl e
 unfold e_0 bodyD;rw [e2]
theorem ch_9{l:List D}{d:D}{r:List D}{n leaf:Int}{S:List Int}(hk:∀k∈l,isKey k)(h:x_1 d):f_2 [m_1 n leaf S, .lst (l ++ d::r)]= .ex (j_7 l.length):=by
 generalize m_1 n leaf S=M;have he:=bj_4 (r:=r) hk h;have e:sExpr [1] (eFn 1 d_1 (aCons (eVar 1) aNil)) (start3 2 [M, .lst (l ++ d::r)])= .ex (j_7 l.length) (start3 2 [M, .lst (l ++ d::r)]):=by
  have:eFn 1 d_1 (aCons (eVar 1) aNil) (vsh (start3 2 [M, .lst (l ++ d::r)]))= .ex (j_7 l.length):=by
   rw [←he];rfl
  exact bc_3 rfl rfl this
 unfold f_2 bodyD z_3 sSeq;rw [e]
section
variable{ks:List D}{d:D}{n leaf:Int}{S:List Int}
theorem aw_4{f:Int}{m:Nat}(hb:l_1 [.sh (m_1 n leaf S), .sh (.int f), .sh d, .sh (.lst ks), .sh .non, .no]= .ex (j_7 m) [.sh (m_1 n leaf S), .sh (.int f), .sh d, .sh (.lst ks), .sh .non, .no])
  (hx:ixD (.lst [.int 0, .int (ks.length:Int)]) (.int f)= .ok (.sh (.int (m:Int)))):i_9 [m_1 n leaf S, .int f,d, .lst ks]= .ok (.sh (.bl true)):=by
 generalize m_1 n leaf S=M at *
 refine l_4 ?_;unfold ag_0;have s1:sSet 4 [] (eC .non) (start3 6 [M, .int f,d, .lst ks])= .nx [.sh M, .sh (.int f), .sh d, .sh (.lst ks), .sh .non, .no]:=rfl;have s2:aj_9 l_1 [⟨some 5, [("NoFit",false),("NoKey",true),("NoKeys",false),("Twice",false)],z_4⟩] [.sh M, .sh (.int f), .sh d, .sh (.lst ks), .sh .non, .no]= .nx [.sh M, .sh (.int f), .sh d, .sh (.lst ks), .ow (.lst [.int (m:Int), .int 1]), .no]:=by
  unfold aj_9;rw [hb];rfl
 have he:eqD (.lst [.int (m:Int), .int 1]) (.lst [.int (m:Int), .int 1])= .ok (.sh (.bl true)):=ap_3 1 rfl;rw [a_7 s1,a_7 s2]
 simp_arith [evs,c_9,hx,he]
theorem ci_0(h:x_1 d):i_9 [m_1 n leaf S, .int 0,d, .lst ks]= .ok (.sh (.bl true)):=by
 refine aw_4 (m:=0) ?_ (g_8 (m_0 (i:=0) rfl));have hm:=aq_0 (n:=n) (leaf:=leaf) (S:=S) "room" 1 e_0 (eVar 0) (aCons (eVar 2) aNil) (vsh [.sh (m_1 n leaf S), .sh (.int 0), .sh d, .sh (.lst ks), .sh .non, .no]) [d] cx_5 rfl rfl rfl;rw [cp_1 h] at hm;generalize m_1 n leaf S=M at *
 have e:sExpr [0,2] (y_3 "room" 1 [("Halved",e_0)] (eVar 0) (aCons (eVar 2) aNil)) [.sh M, .sh (.int 0), .sh d, .sh (.lst ks), .sh .non, .no]= .ex (j_7 0) [.sh M, .sh (.int 0), .sh d, .sh (.lst ks), .sh .non, .no]:=by
  exact bc_3 rfl rfl hm
 unfold l_1 sIf;rw [show eTest (eOp eqD (eVar 1) (eC (.int 0))) (vall [.sh M, .sh (.int 0), .sh d, .sh (.lst ks), .sh .non, .no])= .ok true from rfl];exact e
theorem ci_1(hk:∀k∈ks,isKey k)(hl:ks.length≤1000)(h:x_1 d):i_9 [m_1 n leaf S, .int 1,d, .lst ks]= .ok (.sh (.bl true)):=by
 refine aw_4 (m:=ks.length) ?_ (g_8 (m_0 (i:=1) rfl));have c1:b_6 (.lst ks) (.lst [d])= .ok (.ow (.lst (ks ++ [d]))):=ae_9 (by simp;omega);have c2:b_6 (.lst (ks ++ [d])) (.lst ks)= .ok (.ow (.lst (ks ++ [d] ++ ks))):=ae_9 (by simp;omega);have c3:b_6 (.lst (ks ++ [d] ++ ks)) (.lst [d])= .ok (.ow (.lst (ks ++ [d] ++ ks ++ [d]))):=ae_9 (by simp;omega);have ha:aCons (eOp b_6 (eOp b_6 (eOp b_6 (eVar 3) (eLst (aCons (eVar 2) aNil))) (eVar 3)) (eLst (aCons (eVar 2) aNil))) aNil (vsh [.sh (m_1 n leaf S), .sh (.int 1), .sh d, .sh (.lst ks), .sh .non, .no])= .ok [.lst (ks ++ d::(ks ++ [d]))]:=by
  generalize m_1 n leaf S=M
  simp_arith [evs,c1,c2,c3]
  simp
 have hm:=aq_0 (n:=n) (leaf:=leaf) (S:=S) "rooms" 1 f_2 (eVar 0) (aCons (eOp b_6 (eOp b_6 (eOp b_6 (eVar 3) (eLst (aCons (eVar 2) aNil))) (eVar 3)) (eLst (aCons (eVar 2) aNil))) aNil) (vsh [.sh (m_1 n leaf S), .sh (.int 1), .sh d, .sh (.lst ks), .sh .non, .no]) [.lst (ks ++ d::(ks ++ [d]))] cp_0 rfl ha rfl;rw [ch_9 hk h] at hm;generalize m_1 n leaf S=M at *
 have e:sExpr [0,2,3] (y_3 "rooms" 1 [("Halved",f_2)] (eVar 0) (aCons (eOp b_6 (eOp b_6 (eOp b_6 (eVar 3) (eLst (aCons (eVar 2) aNil))) (eVar 3)) (eLst (aCons (eVar 2) aNil))) aNil)) [.sh M, .sh (.int 1), .sh d, .sh (.lst ks), .sh .non, .no]= .ex (j_7 ks.length) [.sh M, .sh (.int 1), .sh d, .sh (.lst ks), .sh .non, .no]:=by
  exact bc_3 rfl rfl hm
 unfold l_1 sIf;rw [show eTest (eOp eqD (eVar 1) (eC (.int 0))) (vall [.sh M, .sh (.int 1), .sh d, .sh (.lst ks), .sh .non, .no])= .ok false from rfl];exact e
end
theorem bz_5{xs:List D}(h:bk_4 xs){leaf:Int}{most:Nat}(hf:1≤leaf)(hm:most≤1000):d_0 [.lst xs, .int leaf, .int (most:Int)]= .ok (.sh (.bl true)):=by
 rcases by_7 h.1 (.int leaf) (.int (most:Int)) with e|⟨h1,h2,h3,h4⟩
 ·exact e
 ·exact ad_4 h1 h2 h3 (by rcases h.2 with z|z <;> omega) hf hm
theorem bz_6{d:D}(hd:isKey d){leaf:Int}(hf:1≤leaf):f_1 [.lst [d], .int leaf, .int 1]= .ok (["how_many", "leaf", "salts"], [.int 1, .int leaf, .lst [.int 0]]):=by
 have hl:m_4 leaf 1 [g_0 d]=some 0:=by
  have hb:fitB leaf [g_0 d] ((0:Nat):Int)=true:=by
   unfold fitB;rw [if_pos (show(([g_0 d].length:Nat):Int)≤leaf by simpa using hf)];generalize g_0 d=x;unfold unB mixL;generalize j_0 x ((0:Nat):Int) (([x].length:Nat):Int)=y;rfl
  unfold m_4;show(match fitB leaf [g_0 d] ((0:Nat):Int) with|true=>some 0|false=>_)=some 0;rw [hb]
 have hp:e_1 leaf 1 100 ([d].map g_0) []=(true, [0]):=by
  show e_1 leaf 1 (99 + 1) [g_0 d] []=_;unfold e_1;rw [hl];simp only;rw [if_pos (show(([g_0 d].length:Nat):Int)≤leaf by simpa using hf)];rfl
 have:=bu_1 (ks:= [d]) (most:=1) (fun k hk=>by rw [List.mem_singleton.mp hk];exact hd) (by simp) (by simp) (by simp) hf (by decide) hp;rw [if_pos rfl] at this;exact this
section
variable{nsD:D}{ks:List D}{c:Int}
theorem cp_2(s:Int)(Δ:SE)(δ:DE)(hg:gsome [6] Δ=Δ)(hv:vsh Δ=δ)(h6:δ[6]? =some (some (.int s))):∃(leaf:Int) (most:Nat),1≤leaf∧most≤60∧sUnp (gP 8 9) [6] (eOp ixD (eLst (aCons (eTup (aCons (eOp b_6 (eC (.int 1)) (eOp d_7 (eOp h_1 (eVar 6) (eC (.int 7))) (eC (.int 6)))) (aCons (eOp b_6 (eC (.int 1)) (eOp d_7 (eOp h_1 (eVar 6) (eC (.int 42))) (eC (.int 3)))) aNil))) (aCons (eTup (aCons (eOp b_6 (eC (.int 1)) (eOp d_7 (eOp h_1 (eVar 6) (eC (.int 7))) (eC (.int 6)))) (aCons (eC (.int 60)) aNil))) aNil))) (eOp d_7 (eVar 6) (eC (.int 2)))) Δ= .nx ((Δ.set 8 (.sh (.int leaf))).set 9 (.sh (.int (most:Int)))):=by
 have d7:=j_6 (i:=s) (show(0:Int) < 7 by decide) (by decide);have d42:=j_6 (i:=s) (show(0:Int) < 42 by decide) (by decide);have m6:=fun i:Int=>e_3 (i:=i) (show(0:Int) < 6 by decide);have m3:=fun i:Int=>e_3 (i:=i) (show(0:Int) < 3 by decide);have m2:=fun i:Int=>e_3 (i:=i) (show(0:Int) < 2 by decide);have x0:ixD (.lst [.tup [.int (1 + s / 7 % 6), .int (1 + s / 42 % 3)], .tup [.int (1 + s / 7 % 6), .int 60]]) (.int 0)= .ok (.sh (.tup [.int (1 + s / 7 % 6), .int (1 + s / 42 % 3)])):=g_8 (m_0 (i:=0) rfl);have x1:ixD (.lst [.tup [.int (1 + s / 7 % 6), .int (1 + s / 42 % 3)], .tup [.int (1 + s / 7 % 6), .int 60]]) (.int 1)= .ok (.sh (.tup [.int (1 + s / 7 % 6), .int 60])):=g_8 (m_0 (i:=1) rfl);rcases(show s % 2=0∨s % 2=1 by omega) with e|e
 ·refine⟨1 + s / 7 % 6,(1 + s / 42 % 3).toNat,by omega,by omega, ?_⟩;rw [show(((1 + s / 42 % 3).toNat:Nat):Int)=1 + s / 42 % 3 by omega];unfold sUnp;rw [hg,hv]
  simp_arith [evs,h6,d7,m6,f_5,d42,m3,m2,e,x0,gP]
 ·refine⟨1 + s / 7 % 6,60,by omega,by omega, ?_⟩;unfold sUnp;rw [hg,hv]
  simp_arith [evs,h6,d7,m6,f_5,d42,m3,m2,e,x1,gP]
  rfl
end
section
variable{nsD:D}{ks:List D}{c:Int}
theorem cx_7(ec:∃z,g_3 [nsD, .int 1]= .ok (.sh (.int z)))(hk:∀k∈ks,isKey k)(nd:ks.Nodup)(h1:1≤ks.length)(h2:ks.length≤30){s1:Sl}(hs:s1= .ow (.lst ks)∨s1= .sh (.lst ks)){k:Nat}(h4:k < 4)(a6 a7 a8 a9:Sl):
  ∃b6 b7 b8 b9,am_5 [.sh nsD,s1, .sh (.int c), .sh (.int (k:Int)), .no, .no,a6,a7,a8,a9]= .nx [.sh nsD, .sh (.lst ks), .sh (.int c), .sh (.int (k:Int)), .no, .no,b6,b7,b8,b9]:=by
 obtain⟨z,ez⟩:=ec;have d9:=j_6 (i:=c) (show(0:Int) < 9 by decide) (by decide);have mm:=e_3 (i:=c) (show(0:Int) < 2147483647 by decide);have x0:ixD (.lst [.int c, .int 0, .int 0, .int (c / 9)]) (.int 0)= .ok (.sh (.int c)):=g_8 (m_0 (i:=0) rfl);have x1:ixD (.lst [.int c, .int 0, .int 0, .int (c / 9)]) (.int 1)= .ok (.sh (.int 0)):=g_8 (m_0 (i:=1) rfl);have x2:ixD (.lst [.int c, .int 0, .int 0, .int (c / 9)]) (.int 2)= .ok (.sh (.int 0)):=g_8 (m_0 (i:=2) rfl);have x3:ixD (.lst [.int c, .int 0, .int 0, .int (c / 9)]) (.int 3)= .ok (.sh (.int (c / 9))):=g_8 (m_0 (i:=3) rfl);have y0:ixD (.lst [.int (c % 2147483647), .int z]) (.int (1 - 1))= .ok (.sh (.int (c % 2147483647))):=g_8 (m_0 (i:=0) rfl);have y1:ixD (.lst [.int (c % 2147483647), .int z]) (.int (2 - 1))= .ok (.sh (.int z)):=g_8 (m_0 (i:=1) rfl);have e1:=z_5 (c % 2147483647) (7 + 1) (by decide) (by decide);have e2:=z_5 z (7 + 2) (by decide) (by decide);have f1:∀i j:Int,eqD (.int i) (.int j)= .ok (.sh (.bl (decide (i=j)))):=fun i j=>e_4 i j;obtain⟨s,hv⟩:∃s:Int,∀g:FS,sSeq (sSet 6 [2,3] (eOp ixD (eLst (aCons (eVar 2) (aCons (eC (.int 0)) (aCons (eC (.int 0)) (aCons (eOp h_1 (eVar 2) (eC (.int 9))) aNil))))) (eVar 3))) (sSeq (sIf [3] (tOrF (eTest (eOp eqD (eVar 3) (eC (.int 1)))) (eTest (eOp eqD (eVar 3) (eC (.int 2)))))
   (sSet 6 [0,2,3] (eFn 2 g_1 (aCons (eOp ixD (eLst (aCons (eOp d_7 (eVar 2) (eC (.int 2147483647))) (aCons (eFn 2 g_3 (aCons (eVar 0) (aCons (eC (.int 1)) aNil))) aNil))) (eOp subD (eVar 3) (eC (.int 1)))) (aCons (eOp b_6 (eC (.int 7)) (eVar 3)) aNil)))) sNil) g) [.sh nsD,s1, .sh (.int c), .sh (.int (k:Int)), .no, .no,a6,a7,a8,a9]=g [.sh nsD,s1, .sh (.int c), .sh (.int (k:Int)), .no, .no, .sh (.int s),a7,a8,a9]:=by
  rcases(show k=0∨k=1∨k=2∨k=3 by omega) with rfl|rfl|rfl|rfl
  ·refine⟨c,fun g=> ?_⟩;rw [a_7 (Δ':= [.sh nsD,s1, .sh (.int c), .sh (.int ((0:Nat):Int)), .no, .no, .sh (.int c),a7,a8,a9]) (by simp_arith [evs,d9,Int.ofNat_zero,Int.natCast_zero,x0])];rw [a_7 (Δ':= [.sh nsD,s1, .sh (.int c), .sh (.int ((0:Nat):Int)), .no, .no, .sh (.int c),a7,a8,a9]) (by simp_arith [evs,f1];rfl)]
  ·refine⟨mixZ (c % 2147483647) (7 + 1),fun g=> ?_⟩;rw [a_7 (Δ':= [.sh nsD,s1, .sh (.int c), .sh (.int 1), .no, .no, .sh (.int 0),a7,a8,a9]) (by simp_arith [evs,d9,show((1:Nat):Int)=1 from rfl,x1])];rw [a_7 (Δ':= [.sh nsD,s1, .sh (.int c), .sh (.int 1), .no, .no, .sh (.int (mixZ (c % 2147483647) (7 + 1))),a7,a8,a9]) (by simp_arith [evs,f1,decide_true,mm,ez,ad_0,y0,f_5,e1])];rfl
  ·refine⟨mixZ z (7 + 2),fun g=> ?_⟩;rw [a_7 (Δ':= [.sh nsD,s1, .sh (.int c), .sh (.int 2), .no, .no, .sh (.int 0),a7,a8,a9]) (by simp_arith [evs,d9,show((2:Nat):Int)=2 from rfl,x2])];rw [a_7 (Δ':= [.sh nsD,s1, .sh (.int c), .sh (.int 2), .no, .no, .sh (.int (mixZ z (7 + 2))),a7,a8,a9]) (by simp_arith [evs,f1,show decide ((2:Int)=1)=false from rfl,decide_true,mm,ez,ad_0,y1,f_5,e2])];rfl
  ·refine⟨c / 9,fun g=> ?_⟩;rw [a_7 (Δ':= [.sh nsD,s1, .sh (.int c), .sh (.int 3), .no, .no, .sh (.int (c / 9)),a7,a8,a9]) (by simp_arith [evs,d9,show((3:Nat):Int)=3 from rfl,x3])];rw [a_7 (Δ':= [.sh nsD,s1, .sh (.int c), .sh (.int 3), .no, .no, .sh (.int (c / 9)),a7,a8,a9]) (by simp_arith [evs,f1];rfl)];rfl
 obtain⟨leaf,most,hf,hm,hu⟩:=cp_2 s [.sh nsD,s1, .sh (.int c), .sh (.int (k:Int)), .no, .no, .sh (.int s),a7,a8,a9] _ rfl rfl (by rfl);obtain⟨xs,hx,w,ew,hw⟩:=bk_5 hk h1 h2 (s / 64);have d64:=j_6 (i:=s) (show(0:Int) < 64 by decide) (by decide);have q1:=bz_5 hx hf (show most≤1000 by omega);have q2:=ad_4 hk nd h1 (by omega) hf (show most≤1000 by omega);obtain⟨b7,hb7,hs7⟩:∃b7,b7.any=some (.lst xs)∧sSet 7 [1,6] (eFn 2 k_5 (aCons (eVar 1) (aCons (eOp h_1 (eVar 6) (eC (.int 64))) aNil))) [.sh nsD,s1, .sh (.int c), .sh (.int (k:Int)), .no, .no, .sh (.int s),a7, .sh (.int leaf), .sh (.int (most:Int))]= .nx [.sh nsD, .sh (.lst ks), .sh (.int c), .sh (.int (k:Int)), .no, .no, .sh (.int s),b7, .sh (.int leaf), .sh (.int (most:Int))]:=by
  rcases hw with rfl|rfl
  ·exact⟨.sh (.lst xs),rfl,by rcases hs with rfl|rfl <;> simp_arith [evs,d64,ew]⟩
  ·exact⟨.ow (.lst xs),rfl,by rcases hs with rfl|rfl <;> simp_arith [evs,d64,ew]⟩
 refine⟨.sh (.int s),b7, .sh (.int leaf), .sh (.int (most:Int)), ?_⟩;unfold am_5;rw [hv,a_7 hu];show sSeq _ _ [.sh nsD,s1, .sh (.int c), .sh (.int (k:Int)), .no, .no, .sh (.int s),a7, .sh (.int leaf), .sh (.int (most:Int))]=_;rw [a_7 hs7];have ht:tOrF (tNotF (eTruth (eFn 3 d_0 (aCons (eVar 7) (aCons (eVar 8) (aCons (eVar 9) aNil)))))) (tNotF (eTruth (eFn 3 d_0 (aCons (eVar 1) (aCons (eVar 8) (aCons (eVar 9) aNil)))))) (vall [.sh nsD, .sh (.lst ks), .sh (.int c), .sh (.int (k:Int)), .no, .no, .sh (.int s),b7, .sh (.int leaf), .sh (.int (most:Int))])= .ok false:=by
  show tOrF (tNotF (eTruth (eFn 3 d_0 (aCons (eVar 7) (aCons (eVar 8) (aCons (eVar 9) aNil)))))) (tNotF (eTruth (eFn 3 d_0 (aCons (eVar 1) (aCons (eVar 8) (aCons (eVar 9) aNil)))))) [some nsD,some (.lst ks),some (.int c),some (.int (k:Int)),none,none,some (.int s),b7.any,some (.int leaf),some (.int (most:Int))]=_;rw [hb7]
  simp_arith [evs,q1,q2]
 unfold sIf;rw [ht];rfl
end
theorem ci_2(ns:List Int)(hn:ns.length≤63):∃v,cq_5 [.lst (ns.map .int)]= .ok v∧v.d= .bl true:=by
 obtain⟨ks,hne,hl,hk,nd,ek⟩:=cn_9 ns 2 30 hn (by decide) (by decide) (by decide) (by decide);have bh:1≤ks.length:=List.length_pos_iff.mpr hne;have fj:ks.length≤30:=by omega
 have er:=ai_3 ns 1 (by decide);generalize ns.getD (1:Int).toNat 0=c at er;have ec:=bb_5 ns 1 (by decide) (by decide);generalize hns:D.lst (ns.map .int)=nsD at *
 have t1:bb_0 (start3 10 [nsD])= .nx [.sh nsD, .ow (.lst ks), .no, .no, .no, .no, .no, .no, .no, .no]:=by
  simp_arith [bb_0,evs,ek]
 have t2:bb_1 [.sh nsD, .ow (.lst ks), .no, .no, .no, .no, .no, .no, .no, .no]= .nx [.sh nsD, .ow (.lst ks), .sh (.int c), .no, .no, .no, .no, .no, .no, .no]:=by
  simp_arith [bb_1,evs,er]
 have hz:∀{n k:Nat} {d:D},(d_8 0 n)[k]? =some d→k < n∧d= .int (k:Int):=fun{n k d} e=>by
  unfold d_8 at e;rw [List.getElem?_map] at e
  by_cases z:k < n
  ·rw [List.getElem?_range z] at e;simp only [Option.map_some,Int.zero_add,Option.some.injEq] at e;exact⟨z,e.symm⟩
  ·rw [List.getElem?_eq_none (by simp;omega)] at e;cases e
 obtain⟨Δ',e3,s1,b3,b6,b7,b8,b9,rfl,_,hs1⟩:=j_4 (gV 3) am_5 (fun k Δ=>∃s1 a3 a6 a7 a8 a9,Δ= [.sh nsD,s1, .sh (.int c),a3, .no, .no,a6,a7,a8,a9]∧(s1= .ow (.lst ks)∨s1= .sh (.lst ks))∧(0 < k→s1= .sh (.lst ks))) (ds:=d_8 0 4) (Δ:= [.sh nsD, .ow (.lst ks), .sh (.int c), .no, .no, .no, .no, .no, .no, .no]) ⟨_,_,_,_,_,_,rfl, .inl rfl,fun z=>absurd z (Nat.lt_irrefl 0)⟩ (fun k d Δ hd hI=>by
  obtain⟨s1,a3,a6,a7,a8,a9,rfl,hs,_⟩:=hI;obtain⟨h4,rfl⟩:=hz hd;obtain⟨b6,b7,b8,b9,hb⟩:=cx_7 (nsD:=nsD) (c:=c) ec hk nd bh fj hs h4 a6 a7 a8 a9;exact⟨[.sh nsD,s1, .sh (.int c), .sh (.int (k:Int)), .no, .no,a6,a7,a8,a9],rfl,_, .inl hb,_,_,_,_,_,_,rfl, .inr rfl,fun _=>rfl⟩)
 have hs1:=hs1 (by rw [p_0];decide);subst hs1;have t3:bb_2 [.sh nsD, .ow (.lst ks), .sh (.int c), .no, .no, .no, .no, .no, .no, .no]= .nx [.sh nsD, .sh (.lst ks), .sh (.int c),b3, .no, .no,b6,b7,b8,b9]:=by
  unfold bb_2 i_8;rw [show iArgs p_1 (aCons (eC (.int 4)) aNil) (vsh [.sh nsD, .ow (.lst ks), .sh (.int c), .no, .no, .no, .no, .no, .no, .no])= .ok (d_8 0 4) from rfl];exact e3
 obtain⟨d0,r0,hd0⟩:∃d0 r0,ks=d0::r0:=by
  cases ks with
  |nil=>exact absurd rfl hne
  |cons a b=>exact⟨a,b,rfl⟩
 have bo:q_1 ks none (some 1)= [d0]:=by
  rw [show(some 1:Option Int)=some ((1:Nat):Int) from rfl,cf_2 ks 1 bh,hd0];rfl
 have hh:=bz_6 (hk d0 (by rw [hd0];simp)) (show(1:Int)≤1 + c % 6 by omega);have t4:bb_3 [.sh nsD, .sh (.lst ks), .sh (.int c),b3, .no, .no,b6,b7,b8,b9]= .nx [.sh nsD, .sh (.lst ks), .sh (.int c),b3, .sh (m_1 1 (1 + c % 6) [0]), .no,b6,b7,b8,b9]:=by
  have ha:aCons (eSlice (eVar 1) oNone (oSome (eC (.int 1)))) (aCons (eOp b_6 (eC (.int 1)) (eOp d_7 (eVar 2) (eC (.int 6)))) (aCons (eC (.int 1)) aNil)) (vsh [.sh nsD, .sh (.lst ks), .sh (.int c),b3, .no, .no,b6,b7,b8,b9])= .ok [.lst [d0], .int (1 + c % 6), .int 1]:=by
   simp_arith [evs,eSlice,r_6,e_3 (show(0:Int) < 6 by decide),f_5,bo]
  unfold bb_3 sSet aj_8;rw [ha,R.bind_ok,if_pos (show [D.lst [d0], .int (1 + c % 6), .int 1].length=3 from rfl),hh];rfl
 have t5:∃b5,bb_4 [.sh nsD, .sh (.lst ks), .sh (.int c),b3, .sh (m_1 1 (1 + c % 6) [0]), .no,b6,b7,b8,b9]= .nx [.sh nsD, .sh (.lst ks), .sh (.int c),b3, .sh (m_1 1 (1 + c % 6) [0]),b5,b6,b7,b8,b9]:=by
  obtain⟨Δ',e5,b5,rfl⟩:=j_4 (gV 5) am_6 (fun _ Δ=>∃a5,Δ= [.sh nsD, .sh (.lst ks), .sh (.int c),b3, .sh (m_1 1 (1 + c % 6) [0]),a5,b6,b7,b8,b9]) (ds:=d_8 0 2) (Δ:= [.sh nsD, .sh (.lst ks), .sh (.int c),b3, .sh (m_1 1 (1 + c % 6) [0]), .no,b6,b7,b8,b9]) ⟨_,rfl⟩ (fun k d Δ hd hI=>by
   obtain⟨a5,rfl⟩:=hI;obtain⟨h2,rfl⟩:=hz hd;refine⟨_,rfl, [.sh nsD, .sh (.lst ks), .sh (.int c),b3, .sh (m_1 1 (1 + c % 6) [0]), .sh (.int (k:Int)),b6,b7,b8,b9], .inl ?_,_,rfl⟩;have em:=z_5 (c % 2147483647) (k:Int) (by omega) (by omega);obtain⟨d,hdb,ed⟩:=ap_7 (mixZ (c % 2147483647) (k:Int));have hno:i_9 [m_1 1 (1 + c % 6) [0], .int (k:Int),d, .lst ks]= .ok (.sh (.bl true)):=by
    rcases(show k=0∨k=1 by omega) with rfl|rfl
    ·exact ci_0 hdb.1
    ·exact ci_1 hk (by omega) hdb.1
   generalize m_1 1 (1 + c % 6) [0]=M at hno⊢;show am_6 [.sh nsD, .sh (.lst ks), .sh (.int c),b3, .sh M, .sh (.int (k:Int)),b6,b7,b8,b9]=_
   simp_arith [am_6,evs,e_3 (show(0:Int) < 2147483647 by decide),em,ed,hno])
  refine⟨b5, ?_⟩;unfold bb_4 i_8;rw [show iArgs p_1 (aCons (eC (.int 2)) aNil) (vsh [.sh nsD, .sh (.lst ks), .sh (.int c),b3, .sh (m_1 1 (1 + c % 6) [0]), .no,b6,b7,b8,b9])= .ok (d_8 0 2) from rfl];exact e5
 obtain⟨b5,t5⟩:=t5;have q:=ad_4 (leaf:=1) (most:=1) hk nd bh (by omega) (by decide) (by decide);refine⟨.sh (.bl true), ?_,rfl⟩;refine l_4 ?_;unfold cq_4;rw [a_7 t1,a_7 t2,a_7 t3,a_7 t4,a_7 t5];generalize m_1 1 (1 + c % 6) [0]=M;have q:d_0 [.lst ks, .int 1, .int 1]= .ok (.sh (.bl true)):=q
 simp_arith [bs_7,evs,q]
end My
set_option maxHeartbeats 20000000
namespace My
open PySem PyProof.Rows L2 L3
def top(i:Nat):Stmt:=PySem.Challenge.pw_lodge_k67_halves_refused.main.body.getD i (.Pass ⟨0,0,0,0⟩)
def ab_2:Stmt→List Stmt
 | .ClassDef (body:=b) .. =>b
 |_=> []
def inC(i j:Nat):Stmt:=(ab_2 (top i)).getD j (.Pass ⟨0,0,0,0⟩)
section
variable{P:Program}{w:World}{K:Frag}{mg:Str→Option Value}{base:Heap}{f:Addr}{fd:FuncData}
abbrev TF(c:Bool)(x:Str)(k:Nat)(ps:List Str)(F:List D→R W)(P:Program)(w:World)(K:Frag)(mg:Str→Option Value)(base:Heap):Prop:=FnD P w K mg base c x k ps F
abbrev TFB(x:Str)(k:Nat)(ps:List Str)(F:List D→R W)(P:Program)(w:World)(K:Frag)(mg:Str→Option Value)(base:Heap):Prop:=FnDB P w K mg base x k ps F
abbrev v_1:=TF true "_law_raw" 1 ["_law_script", "_law_k"] i_3
abbrev v_2:=TF true "_law_mix" 1 ["_law_cell_here", "_law_k"] g_1
abbrev ad_5:=TF true "_law_cell" 2 ["_law_script", "_law_k"] g_3
abbrev ak_5:=TF true "_law_great" 2 ["_law_cell_here"] k_4
abbrev ak_6:=TF true "_law_cells" 3 ["_law_script", "_law_start", "_law_most"] m_7
abbrev aw_5:=TF true "_law_key" 1 ["_law_cell_here"] m_8
abbrev aq_2:=TF true "_law_keys" 4 ["_law_script", "_law_start", "_law_most"] p_4
abbrev u_0:=TF true "_law_bad_key" 1 ["_law_cell_here"] h_7
abbrev z_7:=TF true "_law_bad_list" 2 ["_law_some", "_law_cell_here"] k_5
abbrev z_8:=TF true "_law_stamp" 1 ["_law_key_here"] f_7
abbrev aw_6:=TF true "_law_due" 2 ["_law_some"] i_4
abbrev z_9:=TF true "_law_mixed" 1 ["_law_number", "_law_salt", "_law_size"] n_0
abbrev ag_6:=TF true "_law_unlike" 2 ["_law_stamps", "_law_salt"] o_0
abbrev ad_6:=TF true "_law_goes" 2 ["_law_stamps", "_law_salt"] m_3
abbrev aq_3:=TF true "_law_fits" 3 ["_law_stamps", "_law_leaf", "_law_salt"] p_5
abbrev ag_7:=TF true "_law_parted" 73 ["_law_stamps", "_law_leaf", "_law_most", "_law_ahead"] (f_0 70)
abbrev aa_0:=TFB "_law_alone" 1 ["_law_error"] k_7
abbrev ab_9:=TF true "is_key_text" 1 ["text"] g_9
abbrev aq_4:=TF true "is_key" 2 ["thing"] k_8
abbrev q_4:=TF true "look_each_key" 3 ["keys"] d_1
abbrev ac_0:=TF true "look_unlike" 3 ["keys"] h_8
abbrev ak_7:=TF true "look_keys" 4 ["keys"] c_4
abbrev v_3:=TF true "is_last" 1 ["size", "leaf"] n_2
abbrev am_8:=TF true "mixed" 1 ["number", "salt", "size"] s_7
abbrev ai_9:=TF true "on_side" 2 ["stamps", "salt", "side"] p_6
abbrev t_0:=TF true "left_size" 1 ["size"] k_9
abbrev ak_8:=TF true "salt_fits" 3 ["stamps", "salt", "leaf"] n_3
abbrev ag_8:=TF true "least_salt" 4 ["stamps", "leaf", "most"] o_2
abbrev ak_9:=TF true "salts_for" 5 ["stamps", "leaf", "most"] i_6
abbrev bu_2:=TF true "worth" 1 ["text"] af_5
abbrev bc_4:=TF true "stamp" 3 ["key"] o_3
abbrev aq_5:=TF true "_law_made" 8 ["_law_handed", "_law_first", "_law_most"] g_6
abbrev al_0:=TF true "_law_asked" 74 ["_law_keys_here", "_law_first", "_law_most"] d_0
abbrev aa_1:=TF true "parts_within" 71 ["size", "leaf"] (l_0 70)
abbrev ag_9:=TF true "_law_no_key" 75 ["_law_house", "_law_form", "_law_thing", "_law_keys_here"] i_9
abbrev l_7:Stmt:=(ab_2 (top 11)).getD 0 (.Pass ⟨0,0,0,0⟩)
theorem as_4:FnScope ["self", "at"] ["self", "at"] (b_0 l_7):=⟨rfl,rfl,rfl,by decide +kernel,rfl,by decide +kernel,by decide +kernel⟩
theorem as_5{C f:Addr}{fd:FuncData}(F:Fun K "__init__" "NoFit.__init__" l_7 f fd)(xc:XCls K C)(hn:findIn K (.ref C) "at" =some none):FnX P w K mg base false 1 f fd ["self", "at"] (ah_9 C "at"):=
 ba_8 (k:=0) F as_4 fun zn A outer s H E=>al_7 (ba_6 xc hn (o_7 rfl (.inl rfl)) (o_7 rfl (.inl rfl)))
abbrev l_8:Stmt:=(ab_2 (top 5)).getD 0 (.Pass ⟨0,0,0,0⟩)
theorem as_6:FnScope ["self", "at"] ["self", "at"] (b_0 l_8):=⟨rfl,rfl,rfl,by decide +kernel,rfl,by decide +kernel,by decide +kernel⟩
theorem as_7{C f:Addr}{fd:FuncData}(F:Fun K "__init__" "Twice.__init__" l_8 f fd)(xc:XCls K C)(hn:findIn K (.ref C) "at" =some none):FnX P w K mg base false 1 f fd ["self", "at"] (ah_9 C "at"):=
 ba_8 (k:=0) F as_6 fun zn A outer s H E=>al_7 (ba_6 xc hn (o_7 rfl (.inl rfl)) (o_7 rfl (.inl rfl)))
abbrev l_9:Stmt:=(ab_2 (top 4)).getD 0 (.Pass ⟨0,0,0,0⟩)
theorem as_8:FnScope ["self", "at"] ["self", "at"] (b_0 l_9):=⟨rfl,rfl,rfl,by decide +kernel,rfl,by decide +kernel,by decide +kernel⟩
theorem as_9{C f:Addr}{fd:FuncData}(F:Fun K "__init__" "NoKey.__init__" l_9 f fd)(xc:XCls K C)(hn:findIn K (.ref C) "at" =some none):FnX P w K mg base false 1 f fd ["self", "at"] (ah_9 C "at"):=
 ba_8 (k:=0) F as_8 fun zn A outer s H E=>al_7 (ba_6 xc hn (o_7 rfl (.inl rfl)) (o_7 rfl (.inl rfl)))
theorem bo_6(F:Fun K "_law_raw" "_law_raw" (top 41) f fd)(g8:mg "len" =none):FnX P w K mg base true 1 f fd ["_law_script", "_law_k"] (spX K 2 i_3):=
 f_4 (N:= ["_law_script", "_law_k"]) F fun zp zq hu nd zr=>(a_5 (d_2 [0,1] (c_5 ay_2 (a_0 1) (b_7 b_8 rfl g8 PySem.boot_len (a_1 (a_0 0) a_4)) (c_0 _))
   (a_6 (b_3 [0,1] (o_5 (a_0 0) (a_0 1))))
   c_1)
  (a_6 (b_3 [] a_2)))
theorem bo_7(F:Fun K "_law_mix" "_law_mix" (top 40) f fd):FnX P w K mg base true 1 f fd ["_law_cell_here", "_law_k"] (spX K 2 g_1):=
 f_4 (N:= ["_law_cell_here", "_law_k", "_law_first"]) F fun zp zq hu nd zr=>(a_5 (b_2 (i:=2) [0,1] (a_3 b_5 (a_3 e_7 (a_3 a_9 (a_0 0) a_2) (a_3 a_9 a_2 (a_3 e_7 a_2 (a_0 1)))) a_2) nd)
  (a_6 (b_3 [1,2] (a_3 b_5 (a_3 a_9 (a_3 a_9 (a_3 e_7 (a_3 c_8 (a_0 2) a_2) a_2) (a_3 e_7 (a_0 2) (a_3 a_9 (a_3 e_7 (a_0 1) (a_0 1)) a_2))) (a_0 1)) a_2))))
theorem bk_6(F:Fun K "_law_cell" "_law_cell" (top 42) f fd)(h8:v_2 P w K mg base)(j4:v_1 P w K mg base):FnX P w K mg base true 2 f fd ["_law_script", "_law_k"] (spX K 2 g_3):=
 f_4 (N:= ["_law_script", "_law_k"]) F fun zp zq hu nd zr=>(a_6 (b_3 [0,1] (a_8 zq zr h8 (a_1 (a_3 b_5 (a_8 zq zr j4 (a_1 (a_0 0) (a_1 (a_0 1) a_4))) a_2) (a_1 (a_3 a_9 (a_0 1) a_2) a_4)))))
theorem bc_5(F:Fun K "_law_great" "_law_great" (top 44) f fd)(h8:v_2 P w K mg base):FnX P w K mg base true 2 f fd ["_law_cell_here"] (spX K 1 k_4):=
 f_4 (N:= ["_law_cell_here"]) F fun zp zq hu nd zr=>(a_6 (b_3 [0] (a_3 a_9 (a_3 e_7 (a_3 a_9 (a_3 e_7 (a_8 zq zr h8 (a_1 (a_0 0) (a_1 a_2 a_4))) a_2) (a_8 zq zr h8 (a_1 (a_0 0) (a_1 a_2 a_4)))) a_2) (a_8 zq zr h8 (a_1 (a_0 0) (a_1 a_2 a_4))))))
theorem bc_6(F:Fun K "_law_cells" "_law_cells" (top 45) f fd)(j4:v_1 P w K mg base)(o5:ad_5 P w K mg base)(aa2:ak_5 P w K mg base)(h8:v_2 P w K mg base)(af2:mg "max" =none)(g8:mg "len" =none)(k4:mg "range" =none)(ai8:mg "min" =none):FnX P w K mg base true 3 f fd ["_law_script", "_law_start", "_law_most"] (spX K 3 m_7):=
 f_4 (N:= ["_law_script", "_law_start", "_law_most", "_law_cells_here", "_law_many"]) F fun zp zq hu nd zr=>(a_5 (b_2 (i:=3) [0,1] (b_7 (aa_6 zp) rfl af2 PyProof.Rows.boot_max (a_1 a_2 (a_1 (a_3 q_8 (b_7 b_8 rfl g8 PySem.boot_len (a_1 (a_0 0) a_4)) (a_0 1)) a_4))) nd)
  (a_5 (d_2 [0] (c_5 (f_6 hu) (a_3 b_5 (a_8 zq zr j4 (a_1 (a_0 0) (a_1 a_2 a_4))) a_2) a_2 (c_0 _))
   (a_6 (b_3 [0,1,2,3] (m_2 (N':= ["_law_script", "_law_start", "_law_most", "_law_cells_here", "_law_many", "_law_k"]) zp (p_2 k4 (a_1 (b_7 (ah_3 (ce_4 zp)) rfl ai8 PyProof.Rows.boot_min (a_1 (a_0 2) (a_1 (a_0 3) a_4))) a_4)) rfl (by kernel_rfl) rfl (fun C s0 H0 fp pn=>⟨(gcM (i:=5)),t_3,(a_8 (i_2 zq) h_9 j4 (a_1 (a_0 0) (a_1 (a_3 a_9 (a_0 1) (a_0 5)) a_4)))⟩))))
   c_1)
  (a_5 (b_2 (i:=4) [0,2,3] (b_7 (ah_3 zp) rfl ai8 PyProof.Rows.boot_min (a_1 (a_0 2) (a_1 (b_7 (aa_6 zp) rfl af2 PyProof.Rows.boot_max (a_1 (a_0 3) (a_1 (a_3 a_9 a_2 (a_3 b_5 (a_8 zq zr o5 (a_1 (a_0 0) (a_1 a_2 a_4))) (a_0 2))) a_4))) a_4))) nd)
  (a_6 (b_3 [0,1,3,4] (m_2 (N':= ["_law_script", "_law_start", "_law_most", "_law_cells_here", "_law_many", "_law_k"]) zp (p_2 k4 (a_1 (a_0 4) a_4)) rfl (by kernel_rfl) rfl (fun C s0 H0 fp pn=>⟨(gcM (i:=5)),t_3,(a_8 (i_2 zq) h_9 aa2 (a_1 (a_8 (i_2 zq) h_9 h8 (a_1 (a_8 (i_2 zq) h_9 o5 (a_1 (a_0 0) (a_1 (a_3 a_9 (a_0 1) (a_3 b_5 (a_0 5) (b_7 (aa_6 (bw_4 zp)) rfl af2 PyProof.Rows.boot_max (a_1 a_2 (a_1 (a_0 3) a_4))))) a_4))) (a_1 (a_0 5) a_4))) a_4))⟩)))))))
theorem bo_8(F:Fun K "_law_key" "_law_key" (top 43) f fd)(k4:mg "range" =none)(y6:mg "int" =none):FnX P w K mg base true 1 f fd ["_law_cell_here"] (spX K 1 m_8):=
 f_4 (N:= ["_law_cell_here", "_law_signs", "_law_rest", "_law_found", "_law_size", "_law_k"]) F fun zp zq hu nd zr=>(a_5 (b_2 (i:=1) [] k_0 nd)
  (a_5 (b_2 (i:=2) [0] (a_3 c_8 (a_0 0) a_2) nd)
  (a_5 (d_2 [0] (c_5 (f_6 hu) (a_3 b_5 (a_0 0) a_2) a_2 (c_0 _))
   (a_6 (b_3 [2] (a_3 b_5 (a_0 2) (a_3 ae_6 a_2 a_2))))
   c_1)
  (a_5 (d_2 [0] (c_5 (f_6 hu) (a_3 b_5 (a_0 0) a_2) a_2 (c_0 _))
   (a_6 (b_3 [2] (a_3 b_5 (a_0 2) a_2)))
   c_1)
  (a_5 (b_2 (i:=3) [] k_0 nd)
  (a_5 (b_2 (i:=4) [2] (a_3 b_5 (a_0 2) a_2) nd)
  (a_5 (r_4 [4] e_9 zp (p_2 k4 (a_1 (a_0 4) a_4)) (v_8 (i:=5) nd)
   (a_5 (b_2 (i:=2) [2,5] (a_3 c_8 (a_0 2) (o_5 (c_3 (a_1 a_2 (a_1 a_2 a_4))) (aa_5 ac_6 rfl y6 PyProof.Rows.boot_int (a_1 (o_9 an_8 (a_0 5) a_2 (c_0 _)) a_4)))) nd)
  (a_6 (b_2 (i:=3) [1,2,3] (a_3 a_9 (a_0 3) (o_5 (a_0 1) (a_3 b_5 (a_0 2) a_2))) nd))))
  (a_6 (aa_7 3)))))))))
theorem bk_7(F:Fun K "_law_keys" "_law_keys" (top 46) f fd)(aa6:ak_6 P w K mg base)(ab9:aw_5 P w K mg base)(j4:v_1 P w K mg base):FnX P w K mg base true 4 f fd ["_law_script", "_law_start", "_law_most"] (spX K 3 p_4):=
 f_4 (N:= ["_law_script", "_law_start", "_law_most", "_law_found", "_law_cell_here", "_law_key_here"]) F fun zp zq hu nd zr=>(a_5 (b_2 (i:=3) [] (c_3 a_4) nd)
  (a_5 (r_4 [0,1,2] e_9 zp (w_9 (a_8 zq zr aa6 (a_1 (a_0 0) (a_1 (a_0 1) (a_1 (a_0 2) a_4))))) (v_8 (i:=4) nd)
   (a_5 (b_2 (i:=5) [4] (a_8 zq zr ab9 (a_1 (a_0 4) a_4)) nd)
  (a_6 (d_2 [3,5] (c_5 ah_2 (a_0 5) (a_0 3) (by with_unfolding_all rfl))
   (a_6 (ay_6 (i:=3) (a_0 5)))
   c_1))))
  (a_5 (d_2 [3] (c_5 (f_6 hu) (a_0 3) (c_3 a_4) (c_0 _))
   (a_6 (b_2 (i:=3) [0] (c_3 (a_1 (a_8 zq zr ab9 (a_1 (a_3 c_8 (a_8 zq zr j4 (a_1 (a_0 0) (a_1 a_2 a_4))) a_2) a_4)) a_4)) nd))
   c_1)
  (a_6 (aa_7 3)))))
theorem aq_6(F:Fun K "_law_bad_key" "_law_bad_key" (top 53) f fd):FnX P w K mg base true 1 f fd ["_law_cell_here"] (spX K 1 h_7):=
 f_4 (N:= ["_law_cell_here", "_law_far", "_law_strange"]) F fun zp zq hu nd zr=>(a_5 (b_2 (i:=1) [0] (o_5 (c_3 (a_1 a_2 (a_1 (a_3 a_9 a_2 (a_3 b_5 (a_3 c_8 (a_0 0) a_2) a_2)) (a_1 (a_3 a_9 (a_3 ae_6 a_2 a_2) (a_3 b_5 (a_3 c_8 (a_0 0) a_2) (a_3 ae_6 a_2 a_2))) a_4)))) (a_3 b_5 (a_3 c_8 (a_0 0) a_2) a_2)) nd)
  (a_5 (d_2 [0] (c_5 (f_6 hu) (a_3 b_5 (a_0 0) a_2) a_2 (c_0 _))
   (a_6 (b_3 [0,1] (o_5 (c_3 (a_1 (a_3 q_8 a_2 (a_0 1)) (a_1 (a_3 a_9 (a_3 q_8 (a_3 ae_6 a_2 a_2) a_2) (a_0 1)) a_4))) (a_3 b_5 (a_3 c_8 (a_0 0) a_2) a_2))))
   c_1)
  (a_5 (b_2 (i:=2) [0] (a_3 a_9 (a_3 a_9 (a_3 br_2 k_0 (a_3 b_5 (a_3 c_8 (a_0 0) a_2) a_2)) (o_5 k_0 (a_3 b_5 (a_3 c_8 (a_0 0) a_2) a_2))) k_0) nd)
  (a_6 (b_3 [0,2] (o_5 (c_3 (a_1 (a_3 br_2 k_0 (a_3 a_9 a_2 (a_3 b_5 (a_3 c_8 (a_0 0) a_2) a_2))) (a_1 (a_0 2) (a_1 k_0 a_4)))) (a_3 b_5 (a_3 c_8 (a_0 0) a_2) a_2)))))))
theorem al_4(F:Fun K "_law_bad_list" "_law_bad_list" (top 54) f fd)(l6:u_0 P w K mg base)(g8:mg "len" =none)(ae1:mg "list" =none)(k4:mg "range" =none):FnX P w K mg base true 2 f fd ["_law_some", "_law_cell_here"] (spX K 2 k_5):=
 f_4 (N:= ["_law_some", "_law_cell_here", "_law_form", "_law_at", "_law_bad", "_law_great_here"]) F fun zp zq hu nd zr=>(a_5 (b_2 (i:=2) [1] (a_3 b_5 (a_0 1) a_2) nd)
  (a_5 (b_2 (i:=3) [0,1] (a_3 b_5 (a_3 c_8 (a_0 1) a_2) (a_3 a_9 (b_7 b_8 rfl g8 PySem.boot_len (a_1 (a_0 0) a_4)) a_2)) nd)
  (a_5 (b_2 (i:=4) [1] (a_8 zq zr l6 (a_1 (a_3 c_8 (a_0 1) a_2) a_4)) nd)
  (a_5 (d_2 [2] (c_5 (f_6 hu) (a_0 2) a_2 (c_0 _))
   (a_5 (b_2 (i:=5) [1,4] (a_3 a_9 (ar_6 zp ae1 k4 (a_1 (a_3 a_9 a_2 (a_3 b_5 (a_3 c_8 (a_0 1) a_2) a_2)) a_4)) (cv_6 (a_1 (a_0 4) a_4) (a_3 b_5 (a_3 c_8 (a_0 1) a_2) a_2))) nd)
  (a_6 (b_3 [1,5] (o_5 (c_3 (a_1 (c_3 a_4) (a_1 (a_0 5) a_4))) (a_3 b_5 (a_3 c_8 (a_0 1) a_2) a_2)))))
   c_1)
  (a_5 (d_2 [2] (c_5 (f_6 hu) (a_0 2) a_2 (c_0 _))
   (a_6 (b_3 [] (m_2 (N':= ["_law_some", "_law_cell_here", "_law_form", "_law_at", "_law_bad", "_law_great_here", "_law_number"]) zp (p_2 k4 (a_1 a_2 a_4)) rfl (by kernel_rfl) rfl (fun C s0 H0 fp pn=>⟨(gcM (i:=6)),t_3,(a_3 b_5 (a_0 6) a_2)⟩))))
   c_1)
  (a_5 (d_2 [2] (c_5 (f_6 hu) (a_0 2) a_2 (c_0 _))
   (a_6 (b_3 [0,3,4] (a_3 a_9 (a_3 a_9 (n_8 (a_0 0) q_9 (r_0 (a_0 3))) (c_3 (a_1 (a_0 4) a_4))) (n_8 (a_0 0) (r_0 (a_0 3)) q_9))))
   c_1)
  (a_5 (d_2 [2] (c_5 (f_6 hu) (a_0 2) a_2 (c_0 _))
   (a_6 (b_3 [0,3,4] (a_3 a_9 (a_3 a_9 (a_3 a_9 (n_8 (a_0 0) q_9 (r_0 (a_0 3))) (c_3 (a_1 (a_0 4) a_4))) (n_8 (a_0 0) (r_0 (a_0 3)) q_9)) (c_3 (a_1 (a_0 4) (a_1 (o_5 (a_0 0) a_2) a_4))))))
   c_1)
  (a_5 (d_2 [2] (c_5 (f_6 hu) (a_0 2) a_2 (c_0 _))
   (a_6 (b_3 [0,1,3] (a_3 a_9 (a_3 a_9 (n_8 (a_0 0) q_9 (r_0 (a_0 3))) (c_3 (a_1 (o_5 (a_0 0) (a_3 b_5 (a_3 c_8 (a_0 1) a_2) (b_7 b_8 rfl g8 PySem.boot_len (a_1 (a_0 0) a_4)))) a_4))) (n_8 (a_0 0) (r_0 (a_0 3)) q_9))))
   c_1)
  (a_6 (b_3 [0,1] (a_3 a_9 (a_0 0) (n_8 (a_0 0) q_9 (r_0 (a_3 a_9 a_2 (a_3 b_5 (a_3 c_8 (a_0 1) a_2) (b_7 b_8 rfl g8 PySem.boot_len (a_1 (a_0 0) a_4)))))))))))))))))
theorem bc_7(F:Fun K "_law_stamp" "_law_stamp" (top 47) f fd)(c8:mg "isinstance" =none)(y6:mg "int" =none)(g8:mg "len" =none)(ab5:KitT K "int"):FnX P w K mg base true 1 f fd ["_law_key_here"] (spX K 1 f_7):=
 f_4 (N:= ["_law_key_here", "_law_worth", "_law_sign"]) F fun zp zq hu nd zr=>(a_5 (d_2 [0] (d_5 (ah_4 ab5 (a_0 0) c8 y6 PyProof.Rows.boot_int))
   (a_6 (b_3 [0] (o_5 (c_3 (a_1 o_8 (a_1 (a_3 e_7 a_2 (a_0 0)) a_4))) (aa_5 ac_6 rfl y6 PyProof.Rows.boot_int (a_1 (be_2 ac_5 ay_2 a_2 (a_0 0) (a_3 ae_6 a_2 a_2)) a_4)))))
   c_1)
  (a_5 (b_2 (i:=1) [] a_2 nd)
  (a_5 (r_4 [0] e_9 zp (w_9 (a_0 0)) (v_8 (i:=2) nd)
   (a_5 (d_2 [0,2] (td_w (aj_4 (c_5 ah_2 (a_0 2) k_0 (by with_unfolding_all rfl)) (ac_2 (c_5 an_8 (b_7 b_8 rfl g8 PySem.boot_len (a_1 (a_0 0) a_4)) a_2 (c_0 _)))))
   (a_6 (b_3 [] o_8))
   c_1)
  (a_6 (b_2 (i:=1) [1,2] (a_3 a_9 (a_3 a_9 (a_3 e_7 (a_0 1) a_2) (bq_8 PySem.F.plainAttrs_str PySem.F.slot_str_index PySem.F.type_str_index bw_7 k_0 (a_1 (a_0 2) a_4))) a_2) nd))))
  (a_6 (b_3 [1] (a_3 a_9 (a_3 e_7 a_2 (a_0 1)) a_2))))))
theorem bo_9(F:Fun K "_law_due" "_law_due" (top 55) f fd)(o7:z_8 P w K mg base)(g8:mg "len" =none)(i9:mg "enumerate" =none):FnX P w K mg base true 2 f fd ["_law_some"] (spX K 1 i_4):=
 f_4 (N:= ["_law_some", "_law_at", "_law_key_here"]) F fun zp zq hu nd zr=>(a_5 (d_2 [0] (td_w (aj_4 (c_5 ay_2 (b_7 b_8 rfl g8 PySem.boot_len (a_1 (a_0 0) a_4)) a_2 (c_0 _)) (ac_2 (c_5 an_8 (b_7 b_8 rfl g8 PySem.boot_len (a_1 (a_0 0) a_4)) a_2 (c_0 _)))))
   (a_6 (b_3 [] (c_3 (a_1 k_0 (a_1 a_2 a_4)))))
   c_1)
  (a_5 (r_4 [0] e_9 zp (al_9 i9 (a_0 0)) (ay_5 (i:=1) (j:=2) zp nd)
   (a_6 (d_2 [2] (c_5 v_9 (a_8 zq zr o7 (a_1 (a_0 2) a_4)) o_8 (c_0 _))
   (a_6 (b_3 [1] (c_3 (a_1 k_0 (a_1 (a_0 1) a_4)))))
   c_1)))
  (a_5 (r_4 [0] e_9 zp (al_9 i9 (a_0 0)) (ay_5 (i:=1) (j:=2) zp nd)
   (a_6 (d_2 [0,1,2] (c_5 cc_6 (a_0 2) (n_8 (a_0 0) q_9 (r_0 (a_0 1))) (by with_unfolding_all rfl))
   (a_6 (b_3 [1] (c_3 (a_1 k_0 (a_1 (a_0 1) a_4)))))
   c_1)))
  (a_6 (b_3 [] o_8)))))
theorem bc_8(F:Fun K "_law_mixed" "_law_mixed" (top 48) f fd):FnX P w K mg base true 1 f fd ["_law_number", "_law_salt", "_law_size"] (spX K 3 n_0):=
 f_4 (N:= ["_law_number", "_law_salt", "_law_size", "_law_prime", "_law_a", "_law_b", "_law_first"]) F fun zp zq hu nd zr=>(a_5 (b_2 (i:=3) [] a_2 nd)
  (a_5 (b_2 (i:=4) [1,3] (a_3 a_9 a_2 (a_3 b_5 (a_3 a_9 (a_3 e_7 a_2 (a_0 1)) a_2) (a_3 q_8 (a_0 3) a_2))) nd)
  (a_5 (b_2 (i:=5) [1,3] (a_3 b_5 (a_3 a_9 (a_3 e_7 (a_3 e_7 a_2 (a_0 1)) (a_0 1)) (a_3 e_7 a_2 (a_0 1))) (a_0 3)) nd)
  (a_5 (b_2 (i:=6) [0,3,4,5] (a_3 b_5 (a_3 a_9 (a_3 e_7 (a_0 4) (a_0 0)) (a_0 5)) (a_0 3)) nd)
  (a_6 (b_3 [2,6] (a_3 b_5 (a_3 a_9 (a_0 6) (a_3 c_8 (a_0 6) a_2)) (a_0 2))))))))
theorem at_0(F:Fun K "_law_unlike" "_law_unlike" (top 49) f fd)(p5:z_9 P w K mg base)(g8:mg "len" =none)(al0:mg "set" =none):FnX P w K mg base true 2 f fd ["_law_stamps", "_law_salt"] (spX K 2 o_0):=
 f_4 (N:= ["_law_stamps", "_law_salt"]) F fun zp zq hu nd zr=>(a_6 (b_3 [0,1] (o_9 (f_6 hu) (av_2 zp g8 al0 (m_2 (N':= ["_law_stamps", "_law_salt", "_law_one"]) zp (w_9 (a_0 0)) rfl (by kernel_rfl) rfl (fun C s0 H0 fp pn=>⟨(gcM (i:=2)),t_3,(a_8 (i_2 zq) h_9 p5 (a_1 (a_0 2) (a_1 (a_0 1) (a_1 (b_7 b_8 rfl g8 PySem.boot_len (a_1 (a_0 0) a_4)) a_4))))⟩))) (b_7 b_8 rfl g8 PySem.boot_len (a_1 (a_0 0) a_4)) (c_0 _))))
theorem bk_8(F:Fun K "_law_goes" "_law_goes" (top 50) f fd)(p5:z_9 P w K mg base):FnX P w K mg base true 2 f fd ["_law_stamps", "_law_salt"] (spX K 2 m_3):=
 f_4 (N:= ["_law_stamps", "_law_salt"]) F fun zp zq hu nd zr=>(a_6 (b_3 [0,1] (m_2 (N':= ["_law_stamps", "_law_salt", "_law_one"]) zp (w_9 (a_0 0)) rfl (by kernel_rfl) rfl (fun C s0 H0 fp pn=>⟨(gcM (i:=2)),(bm_6 (c_5 (f_6 hu) (a_8 (i_2 zq) h_9 p5 (a_1 (a_0 2) (a_1 (a_0 1) (a_1 a_2 a_4)))) a_2 (c_0 _))),(a_0 2)⟩))))
theorem bk_9(F:Fun K "_law_fits" "_law_fits" (top 51) f fd)(aa0:ag_6 P w K mg base)(o6:ad_6 P w K mg base)(g8:mg "len" =none):FnX P w K mg base true 3 f fd ["_law_stamps", "_law_leaf", "_law_salt"] (spX K 3 p_5):=
 f_4 (N:= ["_law_stamps", "_law_leaf", "_law_salt"]) F fun zp zq hu nd zr=>(a_5 (d_2 [0,1] (c_5 ac_5 (b_7 b_8 rfl g8 PySem.boot_len (a_1 (a_0 0) a_4)) (a_0 1) (c_0 _))
   (a_6 (b_3 [0,2] (a_8 zq zr aa0 (a_1 (a_0 0) (a_1 (a_0 2) a_4)))))
   c_1)
  (a_6 (b_3 [0,2] (o_9 (f_6 hu) (b_7 b_8 rfl g8 PySem.boot_len (a_1 (a_8 zq zr o6 (a_1 (a_0 0) (a_1 (a_0 2) a_4))) a_4)) (a_3 c_8 (a_3 a_9 (b_7 b_8 rfl g8 PySem.boot_len (a_1 (a_0 0) a_4)) a_2) a_2) (c_0 _)))))
theorem ac_1(F:Fun K "_law_parted" "_law_parted" (top 52) f fd)(hm:mg "_law_parted" =some (.ref f))(hb:Binds K fd ["_law_stamps", "_law_leaf", "_law_most", "_law_ahead"] [])(y8:aq_3 P w K mg base)(o6:ad_6 P w K mg base)(g8:mg "len" =none):∀n:Nat,FnX P w K mg base true (n + 3) f fd ["_law_stamps", "_law_leaf", "_law_most", "_law_ahead"] (spX K 4 (f_0 n))
 |0=>FnX.never rfl
 |n + 1=>f_4 (N:= ["_law_stamps", "_law_leaf", "_law_most", "_law_ahead", "_law_salt", "_law_found", "_law_left", "_law_good"]) F fun zp zq hu nd zr=>have c_S:FnD P w K mg base true "_law_parted" (n + 3) ["_law_stamps", "_law_leaf", "_law_most", "_law_ahead"] (f_0 n):=c_7 F hm hb (ac_1 F hm hb y8 o6 g8 n)
  (a_5 (b_2 (i:=4) [] a_2 nd)
  (a_5 (ao_1 [0,1,2,4] 3000 e_9 (td_w (cu_1 (c_5 ay_2 (a_0 4) (a_0 2) (c_0 _)) (ck_4 (q_0 (d_5 (a_8 zq zr y8 (a_1 (a_0 0) (a_1 (a_0 1) (a_1 (a_0 4) a_4))) (by omega)))))))
   (a_6 (b_2 (i:=4) [4] (a_3 a_9 (a_0 4) a_2) nd)))
  (a_5 (d_2 [2,4] (c_5 (f_6 hu) (a_0 4) (a_0 2) (c_0 _))
   (a_6 (b_3 [3] (c_3 (a_1 an_5 (a_1 (a_0 3) a_4)))))
   c_1)
  (a_5 (b_2 (i:=5) [3,4] (a_3 a_9 (a_0 3) (c_3 (a_1 (a_0 4) a_4))) nd)
  (a_5 (d_2 [0,1] (c_5 ac_5 (b_7 b_8 rfl g8 PySem.boot_len (a_1 (a_0 0) a_4)) (a_0 1) (c_0 _))
   (a_6 (b_3 [5] (c_3 (a_1 an_5 (a_1 (a_0 5) a_4)))))
   c_1)
  (a_5 (b_2 (i:=6) [0,4] (a_8 zq zr o6 (a_1 (a_0 0) (a_1 (a_0 4) a_4)) (by omega)) nd)
  (a_5 (bn_1 [1,2,5,6] (a_8 zq zr c_S (a_1 (a_0 6) (a_1 (a_0 1) (a_1 (a_0 2) (a_1 (a_0 5) a_4)))) (Nat.le_refl _)) (ay_7 (i:=7) (j:=5) zp nd))
  (a_5 (d_2 [7] (q_0 (d_5 (a_0 7)))
   (a_6 (b_3 [5] (c_3 (a_1 an_5 (a_1 (a_0 5) a_4)))))
   c_1)
  (a_6 (b_3 [0,1,2,5,6] (a_8 zq zr c_S (a_1 (m_2 (N':= ["_law_stamps", "_law_leaf", "_law_most", "_law_ahead", "_law_salt", "_law_found", "_law_left", "_law_good", "_law_one"]) zp (w_9 (a_0 0)) rfl (by kernel_rfl) rfl (fun C s0 H0 fp pn=>⟨(gcM (i:=8)),(bm_6 (c_5 ah_2 (a_0 8) (a_0 6) (by with_unfolding_all rfl))),(a_0 8)⟩)) (a_1 (a_0 1) (a_1 (a_0 2) (a_1 (a_0 5) a_4)))) (Nat.le_refl _))))))))))))
theorem bc_9(F:Fun K "_law_alone" "_law_alone" (top 56) f fd)(c8:mg "isinstance" =none)(z8:mg "ValueError" =none)(bd2:mg "sum" =none)(y6:mg "int" =none){i8:Addr}{c7:Addr}{g7:Addr}{c9:Addr}{b4:Addr}{l0:Addr}{j5:Addr}{j2:Addr}{l2:Addr}{l8:Addr}{j3:Addr}{l9:Addr}(x9:mg "LodgeError" =some (.ref i8))(n8:mg "NoKey" =some (.ref c7))(v7:mg "NoFit" =some (.ref g7))(v9:mg "Twice" =some (.ref c9))(r6:mg "NoKeys" =some (.ref b4))(ad8:mg "NoBits" =some (.ref l0))(ac8:mg "NoEdges" =some (.ref j5))(ad3:mg "NoRange" =some (.ref j2))(ae8:mg "NoSuch" =some (.ref l2))(ah0:mg "NoTry" =some (.ref l8))(ac7:mg "NoValue" =some (.ref j3))(ag8:mg "Stuck" =some (.ref l9))(y2:IsOne K (.ref i8) [("NoFit",true),("NoKey",true),("NoKeys",true),("Twice",true)])(ai0:IsOne K (.ref c7) [("NoFit",false),("NoKey",true),("NoKeys",false),("Twice",false)])(aj5:IsOne K (.ref g7) [("NoFit",true),("NoKey",false),("NoKeys",false),("Twice",false)])(ai5:IsOne K (.ref c9) [("NoFit",false),("NoKey",false),("NoKeys",false),("Twice",true)])(ae0:IsOne K (.ref b4) [("NoFit",false),("NoKey",false),("NoKeys",true),("Twice",false)])(x5:IsOne K (.type "ValueError") [("NoFit",true),("NoKey",true),("NoKeys",true),("Twice",true)])(j7:IsAny K [l0,j5,j2] [("NoFit",false),("NoKey",false),("NoKeys",false),("Twice",false)])(i6:IsAny K [l2,l8,j3,l9] [("NoFit",false),("NoKey",false),("NoKeys",false),("Twice",false)]):FnB P w K mg base 1 f fd ["_law_error"] (spX K 1 k_7):=
 db_4 (N:= ["_law_error", "_law_some"]) F fun bx zq hu nd zr=>(a_5 (d_2 [0] (td_w (aj_4 (q_0 (d_5 (ao_8 y2 (a_0 0) c8 x9))) (ac_2 (q_0 (d_5 (cw_6 x5 (a_0 0) c8 z8 al_3))))))
   (a_6 (b_3 [] a_2))
   c_1)
  (a_5 (b_2 (i:=1) [0] (c_3 (a_1 (ao_8 aj5 (a_0 0) c8 v7) (a_1 (ao_8 ai0 (a_0 0) c8 n8) a_4))) nd)
  (a_5 (b_2 (i:=1) [0,1] (a_3 a_9 (a_0 1) (c_3 (a_1 (ao_8 ae0 (a_0 0) c8 r6) (a_1 (ao_8 ai5 (a_0 0) c8 v9) a_4)))) nd)
  (a_5 (d_2 [0] (d_5 (bi_6 j7 (a_0 0) c8 (r_9 ad8 (r_9 ac8 (r_9 ad3 bs_3)))))
   (a_6 (b_3 [] a_2))
   c_1)
  (a_5 (d_2 [0] (d_5 (bi_6 i6 (a_0 0) c8 (r_9 ae8 (r_9 ah0 (r_9 ac7 (r_9 ag8 bs_3))))))
   (a_6 (b_3 [] a_2))
   c_1)
  (a_6 (b_3 [1] (b_7 (bx_9 bx) rfl bd2 PyProof.Rows.boot_sum (a_1 (ce_9 (N':= ["_law_error", "_law_some", "_law_one"]) bx (ce_8 (a_0 1)) rfl (by kernel_rfl) rfl (fun C s0 H0 fp pn=>⟨(gcM (i:=2)),t_3,(aa_5 ac_6 rfl y6 PyProof.Rows.boot_int (a_1 (a_0 2) a_4))⟩)) a_4)))))))))
theorem aq_7(F:Fun K "is_key_text" "is_key_text" (top 20) f fd)(g8:mg "len" =none)(bh9:mg "all" =none){am0:Tok}(y9:mg "MOST_SIGNS" =some (.int 11 am0)){al1:Tok}(ab8:mg "SIGNS" =some (.str "abcdefghijklmnopqrstuvwxyz0123456789-_ " al1)):FnX P w K mg base true 1 f fd ["text"] (spX K 1 g_9):=
 f_4 (N:= ["text"]) F fun zp zq hu nd zr=>(a_6 (b_3 [0] (an_6 (o_9 ac_5 (b_7 b_8 rfl g8 PySem.boot_len (a_1 (a_0 0) a_4)) (aa_4 rfl y9) (c_0 _)) (ax_9 (b_7 (bw_6 zp) rfl bh9 PyProof.Rows.boot_all (a_1 (m_2 (N':= ["text", "sign"]) zp (w_9 (a_0 0)) rfl (by kernel_rfl) rfl (fun C s0 H0 fp pn=>⟨(gcM (i:=1)),t_3,(o_9 cc_6 (a_0 1) (bq_3 rfl ab8) (by with_unfolding_all rfl))⟩)) a_4))))))
theorem bz_7(F:Fun K "is_key" "is_key" (top 21) f fd)(x6:ab_9 P w K mg base)(c8:mg "isinstance" =none)(ae6:mg "bool" =none)(y6:mg "int" =none)(ak3:mg "str" =none)(y4:KitT K "bool")(ab5:KitT K "int")(ab7:KitT K "str"){ad6:Tok}(p6:mg "GREATEST_NUMBER" =some (.int 999999999999999999 ad6)):FnX P w K mg base true 2 f fd ["thing"] (spX K 1 k_8):=
 f_4 (N:= ["thing"]) F fun zp zq hu nd zr=>(a_5 (d_2 [0] (d_5 (ah_4 y4 (a_0 0) c8 ae6 av_0))
   (a_6 (b_3 [] an_5))
   c_1)
  (a_5 (d_2 [0] (d_5 (ah_4 ab5 (a_0 0) c8 y6 PyProof.Rows.boot_int))
   (a_6 (b_3 [0] (be_2 ac_5 ac_5 a_2 (a_0 0) (aa_4 rfl p6))))
   c_1)
  (a_6 (b_3 [0] (an_6 (ah_4 ab7 (a_0 0) c8 ak3 PyProof.Rows.boot_str) (ax_9 (a_8 zq zr x6 (a_1 (a_0 0) a_4))))))))
theorem aj_0(F:Fun K "look_each_key" "look_each_key" (top 25) f fd)(y3:aq_4 P w K mg base)(i9:mg "enumerate" =none){c7:Addr}(ab6:XC P w K mg base "NoKey" "at" c7):FnX P w K mg base true 3 f fd ["keys"] (spX K 1 d_1):=
 f_4 (N:= ["keys", "place", "key"]) F fun zp zq hu nd zr=>(a_6 (r_4 [0] e_9 zp (al_9 i9 (a_0 0)) (ay_5 (i:=1) (j:=2) zp nd)
   (a_6 (d_2 [2] (q_0 (d_5 (a_8 zq zr y3 (a_1 (a_0 2) a_4))))
   (a_6 (af_2 [1] ab6 (RoomC.mono zq (by decide)) af_1 (a_0 1)))
   c_1))))
theorem aq_8(F:Fun K "look_unlike" "look_unlike" (top 26) f fd)(i9:mg "enumerate" =none){c9:Addr}(al3:XC P w K mg base "Twice" "at" c9):FnX P w K mg base true 3 f fd ["keys"] (spX K 1 h_8):=
 f_4 (N:= ["keys", "seen", "place", "key"]) F fun zp zq hu nd zr=>(a_5 (b_2 (i:=1) [] cm_1 nd)
  (a_6 (r_4 [0] e_9 zp (al_9 i9 (a_0 0)) (ay_5 (i:=2) (j:=3) zp nd)
   (a_5 (d_2 [1,3] (c_5 (cv_9 hu) (a_0 3) (a_0 1) (by with_unfolding_all rfl))
   (a_6 (af_2 [2] al3 (RoomC.mono zq (by decide)) af_1 (a_0 2)))
   c_1)
  (a_6 (cm_2 (i:=1) [] hu an_5 (a_0 3)))))))
theorem bd_0(F:Fun K "look_keys" "look_keys" (top 27) f fd)(k6:q_4 P w K mg base)(x8:ac_0 P w K mg base)(g8:mg "len" =none){b4:Addr}(ae7:XC0 K mg "NoKeys" b4){an6:Tok}(ab0:mg "MOST_KEYS" =some (.int 200 an6)):FnX P w K mg base true 4 f fd ["keys"] (spX K 1 c_4):=
 f_4 (N:= ["keys"]) F fun zp zq hu nd zr=>(a_5 (d_2 [0] (td_w (aj_4 (c_5 (f_6 hu) (b_7 b_8 rfl g8 PySem.boot_len (a_1 (a_0 0) a_4)) a_2 (c_0 _)) (ac_2 (c_5 an_8 (b_7 b_8 rfl g8 PySem.boot_len (a_1 (a_0 0) a_4)) (aa_4 rfl ab0) (c_0 _)))))
   (a_6 (bx_8 ae7 (RoomC.mono zq (by decide)) af_1))
   c_1)
  (a_5 (aa_8 [0] (a_8 zq zr k6 (a_1 (a_0 0) a_4)))
  (a_5 (aa_8 [0] (a_8 zq zr x8 (a_1 (a_0 0) a_4)))
  (a_6 (b_3 [0] (b_7 b_8 rfl g8 PySem.boot_len (a_1 (a_0 0) a_4)))))))
theorem bp_0(F:Fun K "is_last" "is_last" (top 32) f fd)(af2:mg "max" =none):FnX P w K mg base true 1 f fd ["size", "leaf"] (spX K 2 n_2):=
 f_4 (N:= ["size", "leaf"]) F fun zp zq hu nd zr=>(a_6 (b_3 [0,1] (o_9 ac_5 (a_0 0) (b_7 (aa_6 zp) rfl af2 PyProof.Rows.boot_max (a_1 (a_0 1) (a_1 a_2 a_4))) (c_0 _))))
theorem ci_3(F:Fun K "mixed" "mixed" (top 24) f fd){bl5:Tok}(ad7:mg "PRIME" =some (.int 2305843009213693951 bl5)):FnX P w K mg base true 1 f fd ["number", "salt", "size"] (spX K 3 s_7):=
 f_4 (N:= ["number", "salt", "size", "factor", "shift", "first"]) F fun zp zq hu nd zr=>(a_5 (d_2 [2] (c_5 (f_6 hu) (a_0 2) a_2 (c_0 _))
   (a_6 (b_3 [] a_2))
   c_1)
  (a_5 (b_2 (i:=3) [1] (a_3 a_9 a_2 (a_3 b_5 (a_3 a_9 (a_3 e_7 a_2 (a_0 1)) a_2) (a_3 q_8 (aa_4 rfl ad7) a_2))) nd)
  (a_5 (b_2 (i:=4) [1] (a_3 b_5 (a_3 a_9 (a_3 e_7 (a_3 e_7 a_2 (a_0 1)) (a_0 1)) (a_3 e_7 a_2 (a_0 1))) (aa_4 rfl ad7)) nd)
  (a_5 (b_2 (i:=5) [0,3,4] (a_3 b_5 (a_3 a_9 (a_3 e_7 (a_0 3) (a_0 0)) (a_0 4)) (aa_4 rfl ad7)) nd)
  (a_6 (b_3 [2,5] (a_3 b_5 (a_3 a_9 (a_0 5) (a_3 c_8 (a_0 5) a_2)) (a_0 2))))))))
theorem bp_1(F:Fun K "on_side" "on_side" (top 33) f fd)(u0:am_8 P w K mg base):FnX P w K mg base true 2 f fd ["stamps", "salt", "side"] (spX K 3 p_6):=
 f_4 (N:= ["stamps", "salt", "side"]) F fun zp zq hu nd zr=>(a_6 (b_3 [0,1,2] (m_2 (N':= ["stamps", "salt", "side", "number"]) zp (w_9 (a_0 0)) rfl (by kernel_rfl) rfl (fun C s0 H0 fp pn=>⟨(gcM (i:=3)),(bm_6 (c_5 (f_6 hu) (a_8 (i_2 zq) h_9 u0 (a_1 (a_0 3) (a_1 (a_0 1) (a_1 a_2 a_4)))) (a_0 2) (c_0 _))),(a_0 3)⟩))))
theorem bd_1(F:Fun K "left_size" "left_size" (top 31) f fd):FnX P w K mg base true 1 f fd ["size"] (spX K 1 k_9):=
 f_4 (N:= ["size"]) F fun zp zq hu nd zr=>(a_6 (b_3 [0] (a_3 c_8 (a_3 a_9 (a_0 0) a_2) a_2)))
theorem bd_2(F:Fun K "salt_fits" "salt_fits" (top 34) f fd)(j1:v_3 P w K mg base)(u0:am_8 P w K mg base)(t9:ai_9 P w K mg base)(j0:t_0 P w K mg base)(g8:mg "len" =none)(al0:mg "set" =none):FnX P w K mg base true 3 f fd ["stamps", "salt", "leaf"] (spX K 3 n_3):=
 f_4 (N:= ["stamps", "salt", "leaf", "size"]) F fun zp zq hu nd zr=>(a_5 (b_2 (i:=3) [0] (b_7 b_8 rfl g8 PySem.boot_len (a_1 (a_0 0) a_4)) nd)
  (a_5 (d_2 [2,3] (d_5 (a_8 zq zr j1 (a_1 (a_0 3) (a_1 (a_0 2) a_4))))
   (a_6 (b_3 [0,1,3] (o_9 (f_6 hu) (av_2 zp g8 al0 (m_2 (N':= ["stamps", "salt", "leaf", "size", "number"]) zp (w_9 (a_0 0)) rfl (by kernel_rfl) rfl (fun C s0 H0 fp pn=>⟨(gcM (i:=4)),t_3,(a_8 (i_2 zq) h_9 u0 (a_1 (a_0 4) (a_1 (a_0 1) (a_1 (a_0 3) a_4))))⟩))) (a_0 3) (c_0 _))))
   c_1)
  (a_6 (b_3 [0,1,3] (o_9 (f_6 hu) (b_7 b_8 rfl g8 PySem.boot_len (a_1 (a_8 zq zr t9 (a_1 (a_0 0) (a_1 (a_0 1) (a_1 a_2 a_4)))) a_4)) (a_8 zq zr j0 (a_1 (a_0 3) a_4)) (c_0 _))))))
theorem at_1(F:Fun K "least_salt" "least_salt" (top 35) f fd)(aa8:ak_8 P w K mg base)(k4:mg "range" =none):FnX P w K mg base true 4 f fd ["stamps", "leaf", "most"] (spX K 3 o_2):=
 f_4 (N:= ["stamps", "leaf", "most", "salt"]) F fun zp zq hu nd zr=>(a_5 (r_4 [2] e_9 zp (p_2 k4 (a_1 (a_0 2) a_4)) (v_8 (i:=3) nd)
   (a_6 (d_2 [0,1,3] (d_5 (a_8 zq zr aa8 (a_1 (a_0 0) (a_1 (a_0 3) (a_1 (a_0 1) a_4)))))
   (a_6 (aa_7 3))
   c_1)))
  (a_6 (b_3 [] o_8)))
theorem bd_3(F:Fun K "salts_for" "salts_for" (top 36) f fd)(y7:ag_8 P w K mg base)(j1:v_3 P w K mg base)(t9:ai_9 P w K mg base)(g8:mg "len" =none){g7:Addr}(al6:XC P w K mg base "NoFit" "at" g7):FnX P w K mg base true 5 f fd ["stamps", "leaf", "most"] (spX K 3 i_6):=
 f_4 (N:= ["stamps", "leaf", "most", "salts", "waiting", "part", "salt"]) F fun zp zq hu nd zr=>(a_5 (b_2 (i:=3) [] (c_3 a_4) nd)
  (a_5 (b_2 (i:=4) [0] (c_3 (a_1 (a_0 0) a_4)) nd)
  (a_5 (ao_1 [4] 3000 e_9 (c_5 an_8 (b_7 b_8 rfl g8 PySem.boot_len (a_1 (a_0 4) a_4)) a_2 (c_0 _))
   (a_5 (cm_3 (i:=5) (j:=4) nd)
  (a_5 (b_2 (i:=6) [1,2,5] (a_8 zq zr y7 (a_1 (a_0 5) (a_1 (a_0 1) (a_1 (a_0 2) a_4)))) nd)
  (a_5 (d_2 [6] (c_5 v_9 (a_0 6) o_8 (c_0 _))
   (a_6 (af_2 [3] al6 (RoomC.mono zq (by decide)) af_1 (b_7 b_8 rfl g8 PySem.boot_len (a_1 (a_0 3) a_4))))
   c_1)
  (a_5 (ay_6 (i:=3) (a_0 6))
  (a_6 (d_2 [1,5] (q_0 (d_5 (a_8 zq zr j1 (a_1 (b_7 b_8 rfl g8 PySem.boot_len (a_1 (a_0 5) a_4)) (a_1 (a_0 1) a_4)))))
   (a_5 (ay_6 (i:=4) (a_8 zq zr t9 (a_1 (a_0 5) (a_1 (a_0 6) (a_1 a_2 a_4)))))
  (a_6 (ay_6 (i:=4) (a_8 zq zr t9 (a_1 (a_0 5) (a_1 (a_0 6) (a_1 a_2 a_4)))))))
   c_1)))))))
  (a_6 (aa_7 3)))))
theorem ci_4(F:Fun K "worth" "worth" (top 22) f fd){al1:Tok}(ab8:mg "SIGNS" =some (.str "abcdefghijklmnopqrstuvwxyz0123456789-_ " al1)):FnX P w K mg base true 1 f fd ["text"] (spX K 1 af_5):=
 f_4 (N:= ["text", "total", "sign"]) F fun zp zq hu nd zr=>(a_5 (b_2 (i:=1) [] a_2 nd)
  (a_5 (r_4 [0] e_9 zp (w_9 (a_0 0)) (v_8 (i:=2) nd)
   (a_6 (b_2 (i:=1) [1,2] (a_3 a_9 (a_3 a_9 (a_3 e_7 a_2 (a_0 1)) (bq_8 PySem.F.plainAttrs_str PySem.F.slot_str_find PySem.F.type_str_find cd_2 (bq_3 rfl ab8) (a_1 (a_0 2) a_4))) a_2) nd)))
  (a_6 (aa_7 1))))
theorem ci_5(F:Fun K "stamp" "stamp" (top 23) f fd)(y3:aq_4 P w K mg base)(al9:bu_2 P w K mg base)(c8:mg "isinstance" =none)(ak3:mg "str" =none)(ab7:KitT K "str"){c7:Addr}(ab6:XC P w K mg base "NoKey" "at" c7):FnX P w K mg base true 3 f fd ["key"] (spX K 1 o_3):=
 f_4 (N:= ["key"]) F fun zp zq hu nd zr=>(a_5 (d_2 [0] (q_0 (d_5 (a_8 zq zr y3 (a_1 (a_0 0) a_4))))
   (a_6 (af_2 [] ab6 (RoomC.mono zq (by decide)) af_1 a_2))
   c_1)
  (a_5 (d_2 [0] (d_5 (ah_4 ab7 (a_0 0) c8 ak3 PyProof.Rows.boot_str))
   (a_6 (b_3 [0] (a_3 a_9 (a_3 e_7 a_2 (a_8 zq zr al9 (a_1 (a_0 0) a_4))) a_2)))
   c_1)
  (a_6 (b_3 [0] (a_3 e_7 a_2 (a_0 0))))))
theorem u_1(F:Fun K "__init__" "House.__init__" (inC 29 0) f fd){CI:Addr}(hCI:ClsAt K "Halved" CI)(k8:OFld K ["Halved"] "how_many"):FnX P w K mg base true 1 f fd ["self", "how_many"] (spI K CI 1 b_9):=
 cq_3 (n:=1) (cn:= "Halved") (N:= ["self", "how_many"]) F hCI (by decide) (by decide) fun zp zq hu nd zr=>(a_6 (az_1 (i:=0) [1] k8 (a_0 1)))
theorem ad_7(F:Fun K "__init__" "Halved.__init__" (inC 38 0) f fd){CI:Addr}(hCI:ClsAt K "Halved" CI)(ab3:ak_7 P w K mg base)(aa1:ak_9 P w K mg base)(ab4:bc_4 P w K mg base)(k9:MakB P w K mg base true "House" "Halved" 1 1 b_9)(z7:OFld K ["Halved"] "leaf")(v6:OFld K ["Halved"] "salts"):FnX P w K mg base true 6 f fd ["self", "keys", "leaf", "most"] (spI K CI 3 f_1):=
 cq_3 (n:=3) (cn:= "Halved") (N:= ["self", "keys", "leaf", "most"]) F hCI (by decide) (by decide) fun zp zq hu nd zr=>(a_5 (ce_6 (i:=0) [1] zq zr k9 (a_8 zq zr ab3 (a_1 (a_0 1) a_4)))
  (a_5 (az_1 (i:=0) [2] z7 (a_0 2))
  (a_6 (az_1 (i:=0) [1,2,3] v6 (a_8 zq zr aa1 (a_1 (m_2 (N':= ["self", "keys", "leaf", "most", "key"]) zp (w_9 (a_0 1)) rfl (by kernel_rfl) rfl (fun C s0 H0 fp pn=>⟨(gcM (i:=4)),t_3,(a_8 (i_2 zq) h_9 ab4 (a_1 (a_0 4) a_4))⟩)) (a_1 (a_0 2) (a_1 (a_0 3) a_4))))))))
theorem bl_0(F:Fun K "_law_made" "_law_made" (top 57) f fd)(k7:aa_0 P w K mg base)(u9:MakD P w K mg base true "Halved" 6 3 f_1){b4:Addr}{c7:Addr}{c9:Addr}{g7:Addr}(r6:mg "NoKeys" =some (.ref b4))(n8:mg "NoKey" =some (.ref c7))(v9:mg "Twice" =some (.ref c9))(v7:mg "NoFit" =some (.ref g7))(af0:Catches K b4 [("NoFit",false),("NoKey",false),("NoKeys",true),("Twice",false)])(u5:Catches K c7 [("NoFit",false),("NoKey",true),("NoKeys",false),("Twice",false)])(aa5:Catches K c9 [("NoFit",false),("NoKey",false),("NoKeys",false),("Twice",true)])(ab1:Catches K g7 [("NoFit",true),("NoKey",false),("NoKeys",false),("Twice",false)])(af3:XGets K ["NoFit", "NoKey", "Twice"] "at"):FnX P w K mg base true 8 f fd ["_law_handed", "_law_first", "_law_most"] (spX K 3 g_6):=
 f_4 (N:= ["_law_handed", "_law_first", "_law_most", "_law_told", "_law_error"]) F fun zp zq hu nd zr=>(a_5 (b_2 (i:=3) [] o_8 nd)
  (a_5 (bs_4 nd rfl rfl (fun zd W EXB lkB=>(a_6 (aa_8 [0,1,2] (br_6 (ao_9 zq) lkB u9 (a_1 (a_0 0) (a_1 (a_0 1) (a_1 (a_0 2) a_4))))))) (HOk3.as_ (i:=4) r6 af0 (fun e=>(a_6 (b_2 (i:=3) [4] (c_3 (a_1 k_0 (a_1 a_2 (a_1 (y_6 af_3 (u_6 zq) h_9 k7 (a_1 (a_0 4) a_4)) a_4)))) nd))) (HOk3.as_ (i:=4) n8 u5 (fun e=>(a_6 (b_2 (i:=3) [4] (c_3 (a_1 k_0 (a_1 (am_2 af3 (a_0 4)) (a_1 (y_6 af_3 (u_6 zq) h_9 k7 (a_1 (a_0 4) a_4)) a_4)))) nd))) (HOk3.as_ (i:=4) v9 aa5 (fun e=>(a_6 (b_2 (i:=3) [4] (c_3 (a_1 k_0 (a_1 (am_2 af3 (a_0 4)) (a_1 (y_6 af_3 (u_6 zq) h_9 k7 (a_1 (a_0 4) a_4)) a_4)))) nd))) (HOk3.as_ (i:=4) v7 ab1 (fun e=>(a_6 (b_2 (i:=3) [4] (c_3 (a_1 k_0 (a_1 (am_2 af3 (a_0 4)) (a_1 (y_6 af_3 (u_6 zq) h_9 k7 (a_1 (a_0 4) a_4)) a_4)))) nd))) .nil)))))
  (a_6 (aa_7 3))))
theorem bd_4(F:Fun K "_law_asked" "_law_asked" (top 58) f fd)(ad9:aw_6 P w K mg base)(z6:ag_7 P w K mg base)(o7:z_8 P w K mg base)(ad4:aq_5 P w K mg base)(ae1:mg "list" =none)(g8:mg "len" =none)(c8:mg "isinstance" =none)(ae6:mg "bool" =none)(y4:KitT K "bool"):FnX P w K mg base true 74 f fd ["_law_keys_here", "_law_first", "_law_most"] (spX K 3 d_0):=
 f_4 (N:= ["_law_keys_here", "_law_first", "_law_most", "_law_handed", "_law_due_here", "_law_told", "_law_good", "_law_salts"]) F fun zp zq hu nd zr=>(a_5 (b_2 (i:=3) [0] (aa_5 be_9 rfl ae1 PyProof.Rows.boot_list (a_1 (a_0 0) a_4)) nd)
  (a_5 (b_2 (i:=4) [0] (a_8 zq zr ad9 (a_1 (a_0 0) a_4)) nd)
  (a_5 (d_2 [4] (c_5 v_9 (a_0 4) o_8 (c_0 _))
   (a_5 (bn_1 [0,1,2] (a_8 zq zr z6 (a_1 (m_2 (N':= ["_law_keys_here", "_law_first", "_law_most", "_law_handed", "_law_due_here", "_law_told", "_law_good", "_law_salts", "_law_key_here"]) zp (w_9 (a_0 0)) rfl (by kernel_rfl) rfl (fun C s0 H0 fp pn=>⟨(gcM (i:=8)),t_3,(a_8 (i_2 zq) h_9 o7 (a_1 (a_0 8) a_4))⟩)) (a_1 (a_0 1) (a_1 (a_0 2) (a_1 (c_3 a_4) a_4))))) (ay_7 (i:=6) (j:=7) zp nd))
  (a_6 (d_2 [6] (q_0 (d_5 (a_0 6)))
   (a_6 (b_2 (i:=4) [7] (c_3 (a_1 k_0 (a_1 (b_7 b_8 rfl g8 PySem.boot_len (a_1 (a_0 7) a_4)) a_4))) nd))
   c_1)))
   c_1)
  (a_5 (b_2 (i:=5) [1,2,3] (a_8 zq zr ad4 (a_1 (a_0 3) (a_1 (a_0 1) (a_1 (a_0 2) a_4)))) nd)
  (a_5 (d_2 [0,3,4,5] (td_w (aj_4 (c_5 (cu_6 hu) (a_0 3) (a_0 0) (c_0 _)) (aj_4 (c_5 v_9 (a_0 5) o_8 (c_0 _)) (ac_2 (c_5 v_9 (a_0 4) o_8 (c_0 _))))))
   (a_6 (b_3 [0,3,4,5] (an_6 (o_9 (f_6 hu) (a_0 3) (a_0 0) (c_0 _)) (an_6 (o_9 v_9 (a_0 5) o_8 (c_0 _)) (ax_9 (o_9 v_9 (a_0 4) o_8 (c_0 _)))))))
   c_1)
  (a_6 (b_3 [4,5] (an_6 (o_9 (f_6 hu) (a_0 5) (a_3 a_9 (a_0 4) (c_3 (a_1 a_2 a_4))) (c_0 _)) (ax_9 (cu_2 (ah_4 y4 (o_5 (a_0 5) a_2) c8 ae6 av_0)))))))))))
theorem x_2(F:Fun K "parts_within" "parts_within" (top 37) f fd)(hm:mg "parts_within" =some (.ref f))(hb:Binds K fd ["size", "leaf"] [])(j1:v_3 P w K mg base)(j0:t_0 P w K mg base):∀n:Nat,FnX P w K mg base true (n + 1) f fd ["size", "leaf"] (spX K 2 (l_0 n))
 |0=>FnX.never rfl
 |n + 1=>f_4 (N:= ["size", "leaf", "left"]) F fun zp zq hu nd zr=>have c_S:FnD P w K mg base true "parts_within" (n + 1) ["size", "leaf"] (l_0 n):=c_7 F hm hb (x_2 F hm hb j1 j0 n)
  (a_5 (d_2 [0,1] (d_5 (a_8 zq zr j1 (a_1 (a_0 0) (a_1 (a_0 1) a_4)) (by omega)))
   (a_6 (b_3 [] a_2))
   c_1)
  (a_5 (b_2 (i:=2) [0] (a_8 zq zr j0 (a_1 (a_0 0) a_4) (by omega)) nd)
  (a_6 (b_3 [0,1,2] (a_3 a_9 (a_3 a_9 a_2 (a_8 zq zr c_S (a_1 (a_0 2) (a_1 (a_0 1) a_4)) (Nat.le_refl _))) (a_8 zq zr c_S (a_1 (a_3 q_8 (a_0 0) (a_0 2)) (a_1 (a_0 1) a_4)) (Nat.le_refl _)))))))
theorem ab_3(F:Fun K "number_of" "Halved.number_of" (inC 38 2) f fd)(ab4:bc_4 P w K mg base)(j1:v_3 P w K mg base)(j0:t_0 P w K mg base)(u0:am_8 P w K mg base)(x4:aa_1 P w K mg base)(k8:OFld K ["Halved"] "how_many")(z7:OFld K ["Halved"] "leaf")(v6:OFld K ["Halved"] "salts"):FnX P w K mg base true 72 f fd ["self", "key"] (spX K 2 c_6):=
 f_4 (N:= ["self", "key", "number", "size", "turn", "passed", "left"]) F fun zp zq hu nd zr=>(a_5 (b_2 (i:=2) [1] (a_8 zq zr ab4 (a_1 (a_0 1) a_4)) nd)
  (a_5 (b_2 (i:=3) [0] (ah_6 k8 (a_0 0)) nd)
  (a_5 (b_2 (i:=4) [] a_2 nd)
  (a_5 (b_2 (i:=5) [] a_2 nd)
  (a_5 (ao_1 [0,3] 3000 e_9 (q_0 (d_5 (a_8 zq zr j1 (a_1 (a_0 3) (a_1 (ah_6 z7 (a_0 0)) a_4)))))
   (a_5 (b_2 (i:=6) [3] (a_8 zq zr j0 (a_1 (a_0 3) a_4)) nd)
  (a_6 (d_2 [0,2,4] (c_5 (f_6 hu) (a_8 zq zr u0 (a_1 (a_0 2) (a_1 (o_5 (ah_6 v6 (a_0 0)) (a_0 4)) (a_1 a_2 a_4)))) a_2 (c_0 _))
   (a_5 (b_2 (i:=4) [4] (a_3 a_9 (a_0 4) a_2) nd)
  (a_6 (b_2 (i:=3) [6] (a_0 6) nd)))
   (a_5 (b_2 (i:=4) [0,4,6] (a_3 a_9 (a_3 a_9 (a_0 4) a_2) (a_8 zq zr x4 (a_1 (a_0 6) (a_1 (ah_6 z7 (a_0 0)) a_4)))) nd)
  (a_5 (b_2 (i:=5) [5,6] (a_3 a_9 (a_0 5) (a_0 6)) nd)
  (a_6 (b_2 (i:=3) [3,6] (a_3 q_8 (a_0 3) (a_0 6)) nd))))))))
  (a_6 (b_3 [0,2,3,4,5] (a_3 a_9 (a_0 5) (a_8 zq zr u0 (a_1 (a_0 2) (a_1 (o_5 (ah_6 v6 (a_0 0)) (a_0 4)) (a_1 (a_0 3) a_4))))))))))))
theorem aq_9(F:Fun K "room" "House.room" (inC 29 2) f fd)(m7:MethT P w K mg base true 72 1 "number_of" [("Halved",c_6)])(k8:OFld K ["Halved"] "how_many")(ai8:mg "min" =none):FnX P w K mg base true 73 f fd ["self", "key"] (spX K 2 e_0):=
 f_4 (N:= ["self", "key"]) F fun zp zq hu nd zr=>(a_6 (b_3 [0,1] (b_7 (ah_3 zp) rfl ai8 PyProof.Rows.boot_min (a_1 (am_1 m7 zq zr (a_0 0) (a_1 (a_0 1) a_4)) (a_1 (a_3 q_8 (ah_6 k8 (a_0 0)) a_2) a_4)))))
theorem al_5(F:Fun K "rooms" "House.rooms" (inC 29 3) f fd)(k6:q_4 P w K mg base)(l3:MethT P w K mg base true 73 1 "room" [("Halved",e_0)]):FnX P w K mg base true 74 f fd ["self", "keys"] (spX K 2 f_2):=
 f_4 (N:= ["self", "keys"]) F fun zp zq hu nd zr=>(a_5 (aa_8 [1] (a_8 zq zr k6 (a_1 (a_0 1) a_4)))
  (a_6 (b_3 [0,1] (m_2 (N':= ["self", "keys", "key"]) zp (w_9 (a_0 1)) rfl (by kernel_rfl) rfl (fun C s0 H0 fp pn=>⟨(gcM (i:=2)),t_3,(am_1 l3 (i_2 zq) h_9 (a_0 0) (a_1 (a_0 2) a_4))⟩)))))
theorem at_2(F:Fun K "_law_no_key" "_law_no_key" (top 59) f fd)(k7:aa_0 P w K mg base)(l3:MethT P w K mg base true 73 1 "room" [("Halved",e_0)])(u7:MethT P w K mg base true 74 1 "rooms" [("Halved",f_2)])(g8:mg "len" =none){c7:Addr}(n8:mg "NoKey" =some (.ref c7))(u5:Catches K c7 [("NoFit",false),("NoKey",true),("NoKeys",false),("Twice",false)])(af3:XGets K ["NoFit", "NoKey", "Twice"] "at"):FnX P w K mg base true 75 f fd ["_law_house", "_law_form", "_law_thing", "_law_keys_here"] (spX K 4 i_9):=
 f_4 (N:= ["_law_house", "_law_form", "_law_thing", "_law_keys_here", "_law_told", "_law_error"]) F fun zp zq hu nd zr=>(a_5 (b_2 (i:=4) [] o_8 nd)
  (a_5 (bs_4 nd rfl rfl (fun zd W EXB lkB=>(a_6 (d_2 [1] (c_5 (f_6 hu) (a_0 1) a_2 (c_0 _))
   (a_6 (aa_8 [0,2] (am_1 l3 (ao_9 zq) lkB (a_0 0) (a_1 (a_0 2) a_4))))
   (a_6 (aa_8 [0,2,3] (am_1 u7 (ao_9 zq) lkB (a_0 0) (a_1 (a_3 a_9 (a_3 a_9 (a_3 a_9 (a_0 3) (c_3 (a_1 (a_0 2) a_4))) (a_0 3)) (c_3 (a_1 (a_0 2) a_4))) a_4))))))) (HOk3.as_ (i:=5) n8 u5 (fun e=>(a_6 (b_2 (i:=4) [5] (c_3 (a_1 (am_2 af3 (a_0 5)) (a_1 (y_6 af_3 (u_6 zq) h_9 k7 (a_1 (a_0 5) a_4)) a_4))) nd))) .nil))
  (a_6 (b_3 [1,3,4] (o_9 (f_6 hu) (a_0 4) (c_3 (a_1 (o_5 (c_3 (a_1 a_2 (a_1 (b_7 b_8 rfl g8 PySem.boot_len (a_1 (a_0 3) a_4)) a_4))) (a_0 1)) (a_1 a_2 a_4))) (c_0 _))))))
theorem cx_8(F:Fun K "law" "law" (top 60) f fd)(ad1:aq_2 P w K mg base)(j4:v_1 P w K mg base)(h8:v_2 P w K mg base)(o5:ad_5 P w K mg base)(v5:z_7 P w K mg base)(u6:al_0 P w K mg base)(z9:ag_9 P w K mg base)(l6:u_0 P w K mg base)(u9:MakD P w K mg base true "Halved" 6 3 f_1)(k4:mg "range" =none):FnX P w K mg base true 76 f fd ["_law_script"] (spX K 1 cq_5):=
 f_4 (N:= ["_law_script", "_law_keys_here", "_law_cell_here", "_law_k", "_law_one", "_law_form", "_law_seed", "_law_bad", "_law_first", "_law_most"]) F fun zp zq hu nd zr=>(a_5 (b_2 (i:=1) [0] (a_8 zq zr ad1 (a_1 (a_0 0) (a_1 a_2 (a_1 a_2 a_4)))) nd)
  (a_5 (b_2 (i:=2) [0] (a_8 zq zr j4 (a_1 (a_0 0) (a_1 a_2 a_4))) nd)
  (a_5 (r_4 [] e_9 zp (p_2 k4 (a_1 a_2 a_4)) (v_8 (i:=3) nd)
   (a_5 (b_2 (i:=6) [2,3] (o_5 (c_3 (a_1 (a_0 2) (a_1 a_2 (a_1 a_2 (a_1 (a_3 c_8 (a_0 2) a_2) a_4))))) (a_0 3)) nd)
  (a_5 (d_2 [3] (td_w (aj_4 (c_5 (f_6 hu) (a_0 3) a_2 (c_0 _)) (ac_2 (c_5 (f_6 hu) (a_0 3) a_2 (c_0 _)))))
   (a_6 (b_2 (i:=6) [0,2,3] (a_8 zq zr h8 (a_1 (o_5 (c_3 (a_1 (a_3 b_5 (a_0 2) a_2) (a_1 (a_8 zq zr o5 (a_1 (a_0 0) (a_1 a_2 a_4))) a_4))) (a_3 q_8 (a_0 3) a_2)) (a_1 (a_3 a_9 a_2 (a_0 3)) a_4))) nd))
   c_1)
  (a_5 (bn_1 [6] (o_5 (c_3 (a_1 (cc_2 (a_1 (a_3 a_9 a_2 (a_3 b_5 (a_3 c_8 (a_0 6) a_2) a_2)) (a_1 (a_3 a_9 a_2 (a_3 b_5 (a_3 c_8 (a_0 6) a_2) a_2)) a_4))) (a_1 (cc_2 (a_1 (a_3 a_9 a_2 (a_3 b_5 (a_3 c_8 (a_0 6) a_2) a_2)) (a_1 a_2 a_4))) a_4))) (a_3 b_5 (a_0 6) a_2)) (ay_7 (i:=8) (j:=9) zp nd))
  (a_5 (b_2 (i:=7) [1,6] (a_8 zq zr v5 (a_1 (a_0 1) (a_1 (a_3 c_8 (a_0 6) a_2) a_4))) nd)
  (a_6 (d_2 [1,7,8,9] (td_w (aj_4 (q_0 (d_5 (a_8 zq zr u6 (a_1 (a_0 7) (a_1 (a_0 8) (a_1 (a_0 9) a_4)))))) (ac_2 (q_0 (d_5 (a_8 zq zr u6 (a_1 (a_0 1) (a_1 (a_0 8) (a_1 (a_0 9) a_4)))))))))
   (a_6 (b_3 [] an_5))
   c_1)))))))
  (a_5 (b_2 (i:=4) [1,2] (br_6 zq zr u9 (a_1 (n_8 (a_0 1) q_9 (r_0 a_2)) (a_1 (a_3 a_9 a_2 (a_3 b_5 (a_0 2) a_2)) (a_1 a_2 a_4)))) nd)
  (a_5 (r_4 [] e_9 zp (p_2 k4 (a_1 a_2 a_4)) (v_8 (i:=5) nd)
   (a_6 (d_2 [1,2,4,5] (q_0 (d_5 (a_8 zq zr z9 (a_1 (a_0 4) (a_1 (a_0 5) (a_1 (a_8 zq zr l6 (a_1 (a_8 zq zr h8 (a_1 (a_3 b_5 (a_0 2) a_2) (a_1 (a_0 5) a_4))) a_4)) (a_1 (a_0 1) a_4)))))))
   (a_6 (b_3 [] an_5))
   c_1)))
  (a_6 (b_3 [1] (a_8 zq zr u6 (a_1 (a_0 1) (a_1 a_2 (a_1 a_2 a_4)))))))))))
abbrev ar_0:Stmt:=top 60
end
theorem cx_9{l:PySem.W.OpenLaw}{w:World}{K:Frag}{h:Heap}{mg:Str→Option Value}{fa:Addr}(X:K.In h)(G:h.Ns mainGlobals mg)(hfa:mg "law" =some (.ref fa))
  {al5:Addr}
  {g9:Addr}
  {f41:Addr} {bn6 bn1:Option Addr} {bn5:Array (Option Value)} {bn7 bm5 bm4 bn2 bl6 bm1:Value}
  {aj8:Tok}
  {bg3:Tok}
  {ad2:Tok}
  {al4:Tok}
  {bh6:Tok}
  {c7:Addr}
  {c9:Addr}
  {g7:Addr}
  {b4:Addr}
  {i8:Addr}
  {l0:Addr}
  {j5:Addr}
  {j2:Addr}
  {l2:Addr}
  {l8:Addr}
  {j3:Addr}
  {l9:Addr}
  {ab2 ar3 ar2:Addr} {bg1 bf4:Str} {ba9 aw0:List Value} {bc1:List Str} {bk2:Bool} {ay8:Option Bool} {bh5 bf3 az8 as0 aw5 bj3:Option Addr} {bg0 bj9 bf0 bi7 bb1:Option Value} {bj7 bf8 bh4 bg6 be7 bc4 ao0 u5:Value} {aj2 ae4:Array DictEntry} {bh2 ax5:Nat} {bd6 ay7 ba2 ba0:Array (Option Value)} {ak0:ClassData}
  {aa4 aq9 ar0:Addr} {bc8 be5:Str} {bf6 au6:List Value} {be2:List Str} {bk9:Bool} {au0:Option Bool} {bb3 bh0 av1 au5 av5 be4:Option Addr} {bi8 bi3 bf2 bb4 bg7:Option Value} {bi1 bi9 bc6 bc9 be1 bh1 ao6 aa5:Value} {ah2 ae5:Array DictEntry} {bg4 ba4:Nat} {bi4 as5 av7 az2:Array (Option Value)} {ak2:ClassData}
  {aa7 ar4 ar1:Addr} {bb7 bg2:Str} {ba6 aw7:List Value} {bk0:List Str} {bb6:Bool} {at6:Option Bool} {bi0 bd8 av4 az6 av9 bk3:Option Addr} {bc7 bb8 be8 bd7 bk6:Option Value} {bj2 bc2 bf5 bc3 bd0 bc0 ao1 ab1:Value} {ai6 ae2:Array DictEntry} {bh3 aw8:Nat} {bj0 as6 ax7 ax1:Array (Option Value)} {ak6:ClassData}
  {an9 am4:Addr} {as7 au2:Str} {ay9 ap4:List Value} {aw9:List Str} {ar6:Bool} {aq4:Option Bool} {at0 ax8 ap7 ap3:Option Addr} {aw3 as1 az0 ba1 ax4:Option Value} {au9 ax3 at7:Value} {af1 ac9:Array DictEntry} {av0 aq3:Nat} {aw1 aq7 ap5:Array (Option Value)} {ah7:ClassData}
  (bf9:nsIn K mainGlobals "House" =some (some (.ref al5)))
  (l4:nsIn K mainGlobals "Halved" =some (some (.ref g9)))
  (av3:plainGet K g9 Str.empty=true)
  (av2:hasDictIn K g9=true)
  (at8:plainOver K g9=true)
  (ax6:findIn K (.ref g9) "__setattr__" =some (some (.builtin "object.__setattr__")))
  (ba3:makesIn K g9=true)
  (au4:keepIn K (.ref g9)=true)
  (ad0:findIn K (.ref g9) "how_many" =some none)
  (aj4:findIn K (.ref g9) "leaf" =some none)
  (af9:findIn K (.ref g9) "salts" =some none)
  (w1:FnTop K "_law_raw" (top 41))
  (w2:FnTop K "_law_mix" (top 40))
  (w3:FnTop K "_law_cell" (top 42))
  (w4:FnTop K "_law_great" (top 44))
  (w5:FnTop K "_law_cells" (top 45))
  (w6:FnTop K "_law_key" (top 43))
  (w7:FnTop K "_law_keys" (top 46))
  (w8:FnTop K "_law_bad_key" (top 53))
  (w9:FnTop K "_law_bad_list" (top 54))
  (w10:FnTop K "_law_stamp" (top 47))
  (w11:FnTop K "_law_due" (top 55))
  (w12:FnTop K "_law_mixed" (top 48))
  (w13:FnTop K "_law_unlike" (top 49))
  (w14:FnTop K "_law_goes" (top 50))
  (w15:FnTop K "_law_fits" (top 51))
  (w16:FnTop K "_law_parted" (top 52))
  (w17:FnTop K "_law_alone" (top 56))
  (w18:FnTop K "is_key_text" (top 20))
  (w19:FnTop K "is_key" (top 21))
  (w20:FnTop K "look_each_key" (top 25))
  (w21:FnTop K "look_unlike" (top 26))
  (w22:FnTop K "look_keys" (top 27))
  (w23:FnTop K "is_last" (top 32))
  (w24:FnTop K "mixed" (top 24))
  (w25:FnTop K "on_side" (top 33))
  (w26:FnTop K "left_size" (top 31))
  (w27:FnTop K "salt_fits" (top 34))
  (w28:FnTop K "least_salt" (top 35))
  (w29:FnTop K "salts_for" (top 36))
  (w30:FnTop K "worth" (top 22))
  (w31:FnTop K "stamp" (top 23))
  (w32:FnBase K al5 "House.__init__" (inC 29 0))
  (w33:FnMet K g9 "__init__" "Halved.__init__" (inC 38 0))
  (w34:FnTop K "_law_made" (top 57))
  (w35:FnTop K "_law_asked" (top 58))
  (w36:FnTop K "parts_within" (top 37))
  (w37:FnMet K g9 "number_of" "Halved.number_of" (inC 38 2))
  (w38:FnMet K g9 "room" "House.room" (inC 29 2))
  (w39:FnMet K g9 "rooms" "House.rooms" (inC 29 3))
  (w40:FnTop K "_law_no_key" (top 59))
  (a41:nsIn K mainGlobals "law" =some (some (.ref f41))) (l41:K.lookup f41=some ⟨bn7,bn6, .func (fnOf "law" "law" (h_4 ar_0) (e_2 ar_0) (b_0 ar_0) .none bm5 bm4 bn2 bn1 bl6 bm1),bn5⟩) (c41:codeIn K bl6 "law" =true) (k41:keepIn K (.ref f41)=true)
  (bm3:nsIn K mainGlobals "len" =some none)
  (bm9:nsIn K mainGlobals "max" =some none)
  (bl3:nsIn K mainGlobals "range" =some none)
  (bm6:nsIn K mainGlobals "min" =some none)
  (bn3:nsIn K mainGlobals "int" =some none)
  (bl8:nsIn K mainGlobals "list" =some none)
  (al8:nsIn K mainGlobals "isinstance" =some none)
  (an0:nsIn K mainGlobals "enumerate" =some none)
  (bl9:nsIn K mainGlobals "set" =some none)
  (am1:nsIn K mainGlobals "ValueError" =some none)
  (bm8:nsIn K mainGlobals "sum" =some none)
  (bm2:nsIn K mainGlobals "all" =some none)
  (bl7:nsIn K mainGlobals "bool" =some none)
  (bn4:nsIn K mainGlobals "str" =some none)
  (ax2:kitOne K (.type "NoneType") (.type "int")=some false)
  (bk7:kitOne K (.type "bool") (.type "int")=some true)
  (as9:kitOne K (.type "int") (.type "int")=some true)
  (ax0:kitOne K (.type "str") (.type "int")=some false)
  (av8:kitOne K (.type "list") (.type "int")=some false)
  (ay2:kitOne K (.type "tuple") (.type "int")=some false)
  (aq5:kitOne K (.type "NoneType") (.type "bool")=some false)
  (ar9:kitOne K (.type "bool") (.type "bool")=some true)
  (aq0:kitOne K (.type "int") (.type "bool")=some false)
  (ap9:kitOne K (.type "str") (.type "bool")=some false)
  (ap2:kitOne K (.type "list") (.type "bool")=some false)
  (aq6:kitOne K (.type "tuple") (.type "bool")=some false)
  (az3:kitOne K (.type "NoneType") (.type "str")=some false)
  (bd1:kitOne K (.type "bool") (.type "str")=some false)
  (as8:kitOne K (.type "int") (.type "str")=some false)
  (aw2:kitOne K (.type "str") (.type "str")=some true)
  (aw4:kitOne K (.type "list") (.type "str")=some false)
  (ar7:kitOne K (.type "tuple") (.type "str")=some false)
  (al7:nsIn K mainGlobals "MOST_SIGNS" =some (some (.int 11 aj8)))
  (bl4:nsIn K mainGlobals "SIGNS" =some (some (.str "abcdefghijklmnopqrstuvwxyz0123456789-_ " bg3)))
  (ad5:nsIn K mainGlobals "GREATEST_NUMBER" =some (some (.int 999999999999999999 ad2)))
  (ao2:nsIn K mainGlobals "MOST_KEYS" =some (some (.int 200 al4)))
  (bl2:nsIn K mainGlobals "PRIME" =some (some (.int 2305843009213693951 bh6)))
  (j8:nsIn K mainGlobals "NoKey" =some (some (.ref c7)))
  (j6:nsIn K mainGlobals "Twice" =some (some (.ref c9)))
  (j9:nsIn K mainGlobals "NoFit" =some (some (.ref g7)))
  (i7:nsIn K mainGlobals "NoKeys" =some (some (.ref b4)))
  (aj9:nsIn K mainGlobals "LodgeError" =some (some (.ref i8)))
  (as2:nsIn K mainGlobals "NoBits" =some (some (.ref l0)))
  (ap8:nsIn K mainGlobals "NoEdges" =some (some (.ref j5)))
  (aq1:nsIn K mainGlobals "NoRange" =some (some (.ref j2)))
  (aw6:nsIn K mainGlobals "NoSuch" =some (some (.ref l2)))
  (bi5:nsIn K mainGlobals "NoTry" =some (some (.ref l8)))
  (aq8:nsIn K mainGlobals "NoValue" =some (some (.ref j3)))
  (bg9:nsIn K mainGlobals "Stuck" =some (some (.ref l9)))
  (ao4:K.lookup c7=some (excClassObj bg1 bf4 c7 ar3 ba9 (.ref ar2::bmVE) true bc1 aw0 bk2 ay8 bh5 bg0 bj9 bf0 bi7 bb1 "ValueError.__new__"))
  (bj8:K.lookup ar3=some ⟨bj7,bf3, .dict aj2 bh2,bd6⟩)
  (bm0:findIn K (.ref c7) "__init__" =some (some (.ref ab2)))
  (bj4:h_5 aj2=true)
  (bc5:nsFind aj2 "__init__" =some (.ref ab2))
  (be6:K.lookup ar2=some ⟨bf8,az8, .cls ak0,ay7⟩)
  (bb0:K.lookup ak0.ns=some ⟨bh4,as0, .dict ae4 ax5,ba2⟩)
  (bj1:h_5 ae4=true)
  (ba7:nsFind ae4 "__init__" =none)
  (bd9:findIn K (.ref c7) "__setattr__" =some (some (.builtin "object.__setattr__")))
  (am3:findIn K (.ref c7) "at" =some none)
  (at2:keepIn K (.ref c7)=true)
  (ak4:K.lookup ab2=some ⟨.type "function",aw5, .func (fnOf "__init__" "NoKey.__init__" (h_4 l_9) (e_2 l_9) (b_0 l_9) .none bg6 be7 bc4 bj3 ao0 u5),ba0⟩)
  (ay6:codeIn K ao0 "NoKey.__init__" =true)
  (ba5:keepIn K (.ref ab2)=true)
  (ao8:findIn K (.ref c7) "__getattribute__" =some (some (.builtin "BaseException.__getattribute__")))
  (am5:findIn K (.ref c7) "__getattr__" =some none)
  (am9:mroIn K c7 (.type "BaseException")=some true)
  (an2:hasDictIn K c7=true)
  (bh8:findIn K (.ref c7) "__class__" =some (some (.builtin "object.__class__")))
  (bk8:mroIn K c7 (.type "object")=some true)
  (ag3:exmOne K (.ref c7) (.ref b4)=some false)
  (aj1:exmOne K (.ref c7) (.ref c7)=some true)
  (ai7:exmOne K (.ref c7) (.ref c9)=some false)
  (ah5:exmOne K (.ref c7) (.ref g7)=some false)
  (ac2:kitOne K (.ref c7) (.ref i8)=some true)
  (ag9:kitOne K (.ref c7) (.ref c7)=some true)
  (ah4:kitOne K (.ref c7) (.ref g7)=some false)
  (ai3:kitOne K (.ref c7) (.ref c9)=some false)
  (af6:kitOne K (.ref c7) (.ref b4)=some false)
  (ac6:kitOne K (.ref c7) (.type "ValueError")=some true)
  (q5:kitAny K (.ref c7) [.ref l0, .ref j5, .ref j2]=some false)
  (n9:kitAny K (.ref c7) [.ref l2, .ref l8, .ref j3, .ref l9]=some false)
  (ap1:K.lookup c9=some (excClassObj bc8 be5 c9 aq9 bf6 (.ref ar0::bmVE) true be2 au6 bk9 au0 bb3 bi8 bi3 bf2 bb4 bg7 "ValueError.__new__"))
  (bj6:K.lookup aq9=some ⟨bi1,bh0, .dict ah2 bg4,bi4⟩)
  (bn0:findIn K (.ref c9) "__init__" =some (some (.ref aa4)))
  (bl1:h_5 ah2=true)
  (bi6:nsFind ah2 "__init__" =some (.ref aa4))
  (bl0:K.lookup ar0=some ⟨bi9,av1, .cls ak2,as5⟩)
  (bi2:K.lookup ak2.ns=some ⟨bc6,au5, .dict ae5 ba4,av7⟩)
  (bd4:h_5 ae5=true)
  (bh7:nsFind ae5 "__init__" =none)
  (bk5:findIn K (.ref c9) "__setattr__" =some (some (.builtin "object.__setattr__")))
  (an4:findIn K (.ref c9) "at" =some none)
  (ar5:keepIn K (.ref c9)=true)
  (ak9:K.lookup aa4=some ⟨.type "function",av5, .func (fnOf "__init__" "Twice.__init__" (h_4 l_8) (e_2 l_8) (b_0 l_8) .none bc9 be1 bh1 be4 ao6 aa5),az2⟩)
  (ay3:codeIn K ao6 "Twice.__init__" =true)
  (az1:keepIn K (.ref aa4)=true)
  (ap0:findIn K (.ref c9) "__getattribute__" =some (some (.builtin "BaseException.__getattribute__")))
  (ao5:findIn K (.ref c9) "__getattr__" =some none)
  (am6:mroIn K c9 (.type "BaseException")=some true)
  (am7:hasDictIn K c9=true)
  (bg5:findIn K (.ref c9) "__class__" =some (some (.builtin "object.__class__")))
  (bb2:mroIn K c9 (.type "object")=some true)
  (ag4:exmOne K (.ref c9) (.ref b4)=some false)
  (ah6:exmOne K (.ref c9) (.ref c7)=some false)
  (aj6:exmOne K (.ref c9) (.ref c9)=some true)
  (ai2:exmOne K (.ref c9) (.ref g7)=some false)
  (ac5:kitOne K (.ref c9) (.ref i8)=some true)
  (ah3:kitOne K (.ref c9) (.ref c7)=some false)
  (ah9:kitOne K (.ref c9) (.ref g7)=some false)
  (ai1:kitOne K (.ref c9) (.ref c9)=some true)
  (ag6:kitOne K (.ref c9) (.ref b4)=some false)
  (ac1:kitOne K (.ref c9) (.type "ValueError")=some true)
  (q8:kitAny K (.ref c9) [.ref l0, .ref j5, .ref j2]=some false)
  (n5:kitAny K (.ref c9) [.ref l2, .ref l8, .ref j3, .ref l9]=some false)
  (ao3:K.lookup g7=some (excClassObj bb7 bg2 g7 ar4 ba6 (.ref ar1::bmVE) true bk0 aw7 bb6 at6 bi0 bc7 bb8 be8 bd7 bk6 "ValueError.__new__"))
  (bj5:K.lookup ar4=some ⟨bj2,bd8, .dict ai6 bh3,bj0⟩)
  (bm7:findIn K (.ref g7) "__init__" =some (some (.ref aa7)))
  (be3:h_5 ai6=true)
  (bf1:nsFind ai6 "__init__" =some (.ref aa7))
  (bf7:K.lookup ar1=some ⟨bc2,av4, .cls ak6,as6⟩)
  (bd5:K.lookup ak6.ns=some ⟨bf5,az6, .dict ae2 aw8,ax7⟩)
  (bb5:h_5 ae2=true)
  (ba8:nsFind ae2 "__init__" =none)
  (be0:findIn K (.ref g7) "__setattr__" =some (some (.builtin "object.__setattr__")))
  (am8:findIn K (.ref g7) "at" =some none)
  (az9:keepIn K (.ref g7)=true)
  (ak7:K.lookup aa7=some ⟨.type "function",av9, .func (fnOf "__init__" "NoFit.__init__" (h_4 l_7) (e_2 l_7) (b_0 l_7) .none bc3 bd0 bc0 bk3 ao1 ab1),ax1⟩)
  (az5:codeIn K ao1 "NoFit.__init__" =true)
  (az4:keepIn K (.ref aa7)=true)
  (ao9:findIn K (.ref g7) "__getattribute__" =some (some (.builtin "BaseException.__getattribute__")))
  (an7:findIn K (.ref g7) "__getattr__" =some none)
  (an5:mroIn K g7 (.type "BaseException")=some true)
  (ao7:hasDictIn K g7=true)
  (bg8:findIn K (.ref g7) "__class__" =some (some (.builtin "object.__class__")))
  (bk1:mroIn K g7 (.type "object")=some true)
  (ag2:exmOne K (.ref g7) (.ref b4)=some false)
  (ai9:exmOne K (.ref g7) (.ref c7)=some false)
  (aj3:exmOne K (.ref g7) (.ref c9)=some false)
  (aj0:exmOne K (.ref g7) (.ref g7)=some true)
  (ac0:kitOne K (.ref g7) (.ref i8)=some true)
  (ah8:kitOne K (.ref g7) (.ref c7)=some false)
  (ah1:kitOne K (.ref g7) (.ref g7)=some true)
  (ai4:kitOne K (.ref g7) (.ref c9)=some false)
  (af7:kitOne K (.ref g7) (.ref b4)=some false)
  (ac3:kitOne K (.ref g7) (.type "ValueError")=some true)
  (p8:kitAny K (.ref g7) [.ref l0, .ref j5, .ref j2]=some false)
  (n6:kitAny K (.ref g7) [.ref l2, .ref l8, .ref j3, .ref l9]=some false)
  (au1:K.lookup b4=some (excClassObj as7 au2 b4 an9 ay9 (.ref am4::bmVE) true aw9 ap4 ar6 aq4 at0 aw3 as1 az0 ba1 ax4 "ValueError.__new__"))
  (ax9:K.lookup an9=some ⟨au9,ax8, .dict af1 av0,aw1⟩)
  (ay5:h_5 af1=true)
  (az7:nsFind af1 "__init__" =none)
  (as4:K.lookup am4=some ⟨ax3,ap7, .cls ah7,aq7⟩)
  (at5:K.lookup ah7.ns=some ⟨at7,ap3, .dict ac9 aq3,ap5⟩)
  (at4:h_5 ac9=true)
  (at9:nsFind ac9 "__init__" =none)
  (aq2:keepIn K (.ref b4)=true)
  (as3:findIn K (.ref b4) "__getattribute__" =some (some (.builtin "BaseException.__getattribute__")))
  (au7:findIn K (.ref b4) "__getattr__" =some none)
  (ay0:mroIn K b4 (.type "BaseException")=some true)
  (au3:hasDictIn K b4=true)
  (au8:findIn K (.ref b4) "__class__" =some (some (.builtin "object.__class__")))
  (ay4:mroIn K b4 (.type "object")=some true)
  (ae3:exmOne K (.ref b4) (.ref b4)=some true)
  (ag0:exmOne K (.ref b4) (.ref c7)=some false)
  (ag5:exmOne K (.ref b4) (.ref c9)=some false)
  (af8:exmOne K (.ref b4) (.ref g7)=some false)
  (aa3:kitOne K (.ref b4) (.ref i8)=some true)
  (af5:kitOne K (.ref b4) (.ref c7)=some false)
  (ag1:kitOne K (.ref b4) (.ref g7)=some false)
  (af4:kitOne K (.ref b4) (.ref c9)=some false)
  (ae9:kitOne K (.ref b4) (.ref b4)=some true)
  (aa9:kitOne K (.ref b4) (.type "ValueError")=some true)
  (p7:kitAny K (.ref b4) [.ref l0, .ref j5, .ref j2]=some false)
  (m8:kitAny K (.ref b4) [.ref l2, .ref l8, .ref j3, .ref l9]=some false)
  (am2:specialIn K (.builtin "object.__class__") "__get__" =some (some (.builtin "getset_descriptor.__get__")))
  (al2:takesIn K (.builtin "object.__class__")=some true):
  ∃fd:FuncData,(∀(s:Shared) (v:Value),BindsTo s fd ⟨[v], []⟩ [("_law_script",v)])∧∀base:Heap,K.In base→base.Ns mainGlobals mg→FnOk l.prog w K mg base CX0 76 fa fd ["_law_script"] (ao_2 K):=by
 have bk4:=mg_of X G bf9;have ar8:=mg_of X G l4;have q9:Cls K g9:=⟨av3,av2,at8,ax6⟩;have k8:OFld K ["Halved"] "how_many" :=(.one l4 q9 ad0 .nil);have z7:OFld K ["Halved"] "leaf" :=(.one l4 q9 aj4 .nil);have v6:OFld K ["Halved"] "salts" :=(.one l4 q9 af9 .nil);have n8:=mg_of X G j8;have v9:=mg_of X G j6;have v7:=mg_of X G j9;have r6:=mg_of X G i7;have x9:=mg_of X G aj9;have ad8:=mg_of X G as2;have ac8:=mg_of X G ap8;have ad3:=mg_of X G aq1;have ae8:=mg_of X G aw6;have ah0:=mg_of X G bi5;have ac7:=mg_of X G aq8;have ag8:=mg_of X G bg9;have ak1:=ba_7 ao4 bd9;have at3:XMk K c7 ab2:=bn_6 ao4 bj8 bj4 bc5 be6 bb0 bj1 ba7;have o8:XInst K c7:=⟨ao8,am5,am9,an2,bh8,am2,al2,bk8⟩;have an1:=an_4 (x:= "__init__") (qual:= "NoKey.__init__") (st:=l_9) ak4 ay6 ba5;have bb9:=Fun.binds2 (ps:= ["self", "at"]) an1 rfl fun _ _ _ _ _ _ _ _=>rfl;have ak5:=ba_7 ap1 bk5;have ay1:XMk K c9 aa4:=bn_6 ap1 bj6 bl1 bi6 bl0 bi2 bd4 bh7;have o9:XInst K c9:=⟨ap0,ao5,am6,am7,bg5,am2,al2,bb2⟩;have an8:=an_4 (x:= "__init__") (qual:= "Twice.__init__") (st:=l_8) ak9 ay3 az1;have bd3:=Fun.binds2 (ps:= ["self", "at"]) an8 rfl fun _ _ _ _ _ _ _ _=>rfl;have ak8:=ba_7 ao3 be0;have av6:XMk K g7 aa7:=bn_6 ao3 bj5 be3 bf1 bf7 bd5 bb5 ba8;have p4:XInst K g7:=⟨ao9,an7,an5,ao7,bg8,am2,al2,bk1⟩;have an3:=an_4 (x:= "__init__") (qual:= "NoFit.__init__") (st:=l_7) ak7 az5 az4;have be9:=Fun.binds2 (ps:= ["self", "at"]) an3 rfl fun _ _ _ _ _ _ _ _=>rfl;have ap6:XMk0 K b4:=cn_2 au1 ax9 ay5 az7 as4 at5 at4 at9;have l7:XInst K b4:=⟨as3,au7,ay0,au3,au8,am2,al2,ay4⟩;have ae7:XC0 K mg "NoKeys" b4:=⟨i7,r6,aq2,ap6⟩;have af0:Catches K b4 [("NoFit",false),("NoKey",false),("NoKeys",true),("Twice",false)]:=(.one j9 ag2 (.one j8 ag3 (.one i7 ae3 (.one j6 ag4 .nil))));have u5:Catches K c7 [("NoFit",false),("NoKey",true),("NoKeys",false),("Twice",false)]:=(.one j9 ai9 (.one j8 aj1 (.one i7 ag0 (.one j6 ah6 .nil))));have aa5:Catches K c9 [("NoFit",false),("NoKey",false),("NoKeys",false),("Twice",true)]:=(.one j9 aj3 (.one j8 ai7 (.one i7 ag5 (.one j6 aj6 .nil))));have ab1:Catches K g7 [("NoFit",true),("NoKey",false),("NoKeys",false),("Twice",false)]:=(.one j9 aj0 (.one j8 ah5 (.one i7 af8 (.one j6 ai2 .nil))));have y2:IsOne K (.ref i8) [("NoFit",true),("NoKey",true),("NoKeys",true),("Twice",true)]:=(.one j9 p4 ac0 (.one j8 o8 ac2 (.one i7 l7 aa3 (.one j6 o9 ac5 .nil))));have ai0:IsOne K (.ref c7) [("NoFit",false),("NoKey",true),("NoKeys",false),("Twice",false)]:=(.one j9 p4 ah8 (.one j8 o8 ag9 (.one i7 l7 af5 (.one j6 o9 ah3 .nil))));have aj5:IsOne K (.ref g7) [("NoFit",true),("NoKey",false),("NoKeys",false),("Twice",false)]:=(.one j9 p4 ah1 (.one j8 o8 ah4 (.one i7 l7 ag1 (.one j6 o9 ah9 .nil))));have ai5:IsOne K (.ref c9) [("NoFit",false),("NoKey",false),("NoKeys",false),("Twice",true)]:=(.one j9 p4 ai4 (.one j8 o8 ai3 (.one i7 l7 af4 (.one j6 o9 ai1 .nil))));have ae0:IsOne K (.ref b4) [("NoFit",false),("NoKey",false),("NoKeys",true),("Twice",false)]:=(.one j9 p4 af7 (.one j8 o8 af6 (.one i7 l7 ae9 (.one j6 o9 ag6 .nil))));have x5:IsOne K (.type "ValueError") [("NoFit",true),("NoKey",true),("NoKeys",true),("Twice",true)]:=(.one j9 p4 ac3 (.one j8 o8 ac6 (.one i7 l7 aa9 (.one j6 o9 ac1 .nil))));have j7:IsAny K [l0,j5,j2] [("NoFit",false),("NoKey",false),("NoKeys",false),("Twice",false)]:=(IsAny.one (v:= [l0,j5,j2]) j9 p4 p8 (IsAny.one (v:= [l0,j5,j2]) j8 o8 q5 (IsAny.one (v:= [l0,j5,j2]) i7 l7 p7 (IsAny.one (v:= [l0,j5,j2]) j6 o9 q8 .nil))));have i6:IsAny K [l2,l8,j3,l9] [("NoFit",false),("NoKey",false),("NoKeys",false),("Twice",false)]:=(IsAny.one (v:= [l2,l8,j3,l9]) j9 p4 n6 (IsAny.one (v:= [l2,l8,j3,l9]) j8 o8 n9 (IsAny.one (v:= [l2,l8,j3,l9]) i7 l7 m8 (IsAny.one (v:= [l2,l8,j3,l9]) j6 o9 n5 .nil))));have af3:XGets K ["NoFit", "NoKey", "Twice"] "at" :=(.one j9 ⟨ao9,an7,an5,ao7,am8⟩ (.one j8 ⟨ao8,am5,am9,an2,am3⟩ (.one j6 ⟨ap0,ao5,am6,am7,an4⟩ .nil)));have e:=hfa.symm.trans (mg_of X G a41);cases e;have g8:=mg_none_of X G bm3;have af2:=mg_none_of X G bm9;have k4:=mg_none_of X G bl3;have ai8:=mg_none_of X G bm6;have y6:=mg_none_of X G bn3;have ae1:=mg_none_of X G bl8;have c8:=mg_none_of X G al8;have i9:=mg_none_of X G an0;have al0:=mg_none_of X G bl9;have z8:=mg_none_of X G am1;have bd2:=mg_none_of X G bm8;have bh9:=mg_none_of X G bm2;have ae6:=mg_none_of X G bl7;have ak3:=mg_none_of X G bn4;have ab5:KitT K "int" :=⟨ax2,bk7,as9,ax0,av8,ay2⟩;have y4:KitT K "bool" :=⟨aq5,ar9,aq0,ap9,ap2,aq6⟩;have ab7:KitT K "str" :=⟨az3,bd1,as8,aw2,aw4,ar7⟩;have y9:=mg_of X G al7;have ab8:=mg_of X G bl4;have p6:=mg_of X G ad5;have ab0:=mg_of X G ao2;have ad7:=mg_of X G bl2;obtain⟨f1,a1,d1,F1⟩:=w1;obtain⟨f2,a2,d2,F2⟩:=w2;obtain⟨f3,a3,d3,F3⟩:=w3;obtain⟨f4,a4,d4,F4⟩:=w4;obtain⟨f5,a5,d5,F5⟩:=w5;obtain⟨f6,a6,d6,F6⟩:=w6;obtain⟨f7,a7,d7,F7⟩:=w7;obtain⟨f8,a8,d8,F8⟩:=w8;obtain⟨f9,a9,d9,F9⟩:=w9;obtain⟨f10,a10,d10,F10⟩:=w10;obtain⟨f11,a11,d11,F11⟩:=w11;obtain⟨f12,a12,d12,F12⟩:=w12;obtain⟨f13,a13,d13,F13⟩:=w13;obtain⟨f14,a14,d14,F14⟩:=w14;obtain⟨f15,a15,d15,F15⟩:=w15;obtain⟨f16,a16,d16,F16⟩:=w16;obtain⟨f17,a17,d17,F17⟩:=w17;obtain⟨f18,a18,d18,F18⟩:=w18;obtain⟨f19,a19,d19,F19⟩:=w19;obtain⟨f20,a20,d20,F20⟩:=w20;obtain⟨f21,a21,d21,F21⟩:=w21;obtain⟨f22,a22,d22,F22⟩:=w22;obtain⟨f23,a23,d23,F23⟩:=w23;obtain⟨f24,a24,d24,F24⟩:=w24;obtain⟨f25,a25,d25,F25⟩:=w25;obtain⟨f26,a26,d26,F26⟩:=w26;obtain⟨f27,a27,d27,F27⟩:=w27;obtain⟨f28,a28,d28,F28⟩:=w28;obtain⟨f29,a29,d29,F29⟩:=w29;obtain⟨f30,a30,d30,F30⟩:=w30;obtain⟨f31,a31,d31,F31⟩:=w31;obtain⟨f32,a32,⟨d32,F32⟩⟩:=w32;obtain⟨f33,a33,⟨d33,F33⟩,k33,i33⟩:=w33;obtain⟨f34,a34,d34,F34⟩:=w34;obtain⟨f35,a35,d35,F35⟩:=w35;obtain⟨f36,a36,d36,F36⟩:=w36;obtain⟨f37,a37,⟨d37,F37⟩,k37,i37⟩:=w37;obtain⟨f38,a38,⟨d38,F38⟩,k38,i38⟩:=w38;obtain⟨f39,a39,⟨d39,F39⟩,k39,i39⟩:=w39;obtain⟨f40,a40,d40,F40⟩:=w40;have F41:=an_4 (st:=ar_0) l41 c41 k41;refine⟨fnOf "law" "law" (h_4 ar_0) (e_2 ar_0) (b_0 ar_0) .none bm5 bm4 bn2 bn1 bl6 bm1,fun s v=> .of_eq rfl,fun base _ _=> ?_⟩;have ab6:XC l.prog w K mg base "NoKey" "at" c7:=⟨j8,n8,at2,ak1,⟨_,_,_,_,at3,ak4,rfl,as_9 an1 ak1 am3,bb9⟩⟩;have al3:XC l.prog w K mg base "Twice" "at" c9:=⟨j6,v9,ar5,ak5,⟨_,_,_,_,ay1,ak9,rfl,as_7 an8 ak5 an4,bd3⟩⟩;have al6:XC l.prog w K mg base "NoFit" "at" g7:=⟨j9,v7,az9,ak8,⟨_,_,_,_,av6,ak7,rfl,as_5 an3 ak8 am8,be9⟩⟩;have j4:v_1 l.prog w K mg base:=c_7 F1 (mg_of X G a1) (Fun.binds2 F1) (bo_6 F1 g8);have h8:v_2 l.prog w K mg base:=c_7 F2 (mg_of X G a2) (Fun.binds2 F2) (bo_7 F2);have o5:ad_5 l.prog w K mg base:=c_7 F3 (mg_of X G a3) (Fun.binds2 F3) (bk_6 F3 h8 j4);have aa2:ak_5 l.prog w K mg base:=c_7 F4 (mg_of X G a4) (Fun.binds1 F4) (bc_5 F4 h8);have aa6:ak_6 l.prog w K mg base:=c_7 F5 (mg_of X G a5) (Fun.binds3 F5) (bc_6 F5 j4 o5 aa2 h8 af2 g8 k4 ai8);have ab9:aw_5 l.prog w K mg base:=c_7 F6 (mg_of X G a6) (Fun.binds1 F6) (bo_8 F6 k4 y6);have ad1:aq_2 l.prog w K mg base:=c_7 F7 (mg_of X G a7) (Fun.binds3 F7) (bk_7 F7 aa6 ab9 j4);have l6:u_0 l.prog w K mg base:=c_7 F8 (mg_of X G a8) (Fun.binds1 F8) (aq_6 F8);have v5:z_7 l.prog w K mg base:=c_7 F9 (mg_of X G a9) (Fun.binds2 F9) (al_4 F9 l6 g8 ae1 k4);have o7:z_8 l.prog w K mg base:=c_7 F10 (mg_of X G a10) (Fun.binds1 F10) (bc_7 F10 c8 y6 g8 ab5);have ad9:aw_6 l.prog w K mg base:=c_7 F11 (mg_of X G a11) (Fun.binds1 F11) (bo_9 F11 o7 g8 i9);have p5:z_9 l.prog w K mg base:=c_7 F12 (mg_of X G a12) (Fun.binds3 F12) (bc_8 F12);have aa0:ag_6 l.prog w K mg base:=c_7 F13 (mg_of X G a13) (Fun.binds2 F13) (at_0 F13 p5 g8 al0);have o6:ad_6 l.prog w K mg base:=c_7 F14 (mg_of X G a14) (Fun.binds2 F14) (bk_8 F14 p5);have y8:aq_3 l.prog w K mg base:=c_7 F15 (mg_of X G a15) (Fun.binds3 F15) (bk_9 F15 aa0 o6 g8);have z6:ag_7 l.prog w K mg base:=c_7 F16 (mg_of X G a16) (Fun.binds4 F16) (ac_1 F16 (mg_of X G a16) (Fun.binds4 F16) y8 o6 g8 70);have k7:aa_0 l.prog w K mg base:=⟨_,_,bc_9 F17 c8 z8 bd2 y6 x9 n8 v7 v9 r6 ad8 ac8 ad3 ae8 ah0 ac7 ag8 y2 ai0 aj5 ai5 ae0 x5 j7 i6,mg_of X G a17,F17.kp,(Fun.binds1 F17)⟩;have x6:ab_9 l.prog w K mg base:=c_7 F18 (mg_of X G a18) (Fun.binds1 F18) (aq_7 F18 g8 bh9 y9 ab8);have y3:aq_4 l.prog w K mg base:=c_7 F19 (mg_of X G a19) (Fun.binds1 F19) (bz_7 F19 x6 c8 ae6 y6 ak3 y4 ab5 ab7 p6);have k6:q_4 l.prog w K mg base:=c_7 F20 (mg_of X G a20) (Fun.binds1 F20) (aj_0 F20 y3 i9 ab6);have x8:ac_0 l.prog w K mg base:=c_7 F21 (mg_of X G a21) (Fun.binds1 F21) (aq_8 F21 i9 al3);have ab3:ak_7 l.prog w K mg base:=c_7 F22 (mg_of X G a22) (Fun.binds1 F22) (bd_0 F22 k6 x8 g8 ae7 ab0);have j1:v_3 l.prog w K mg base:=c_7 F23 (mg_of X G a23) (Fun.binds2 F23) (bp_0 F23 af2);have u0:am_8 l.prog w K mg base:=c_7 F24 (mg_of X G a24) (Fun.binds3 F24) (ci_3 F24 ad7);have t9:ai_9 l.prog w K mg base:=c_7 F25 (mg_of X G a25) (Fun.binds3 F25) (bp_1 F25 u0);have j0:t_0 l.prog w K mg base:=c_7 F26 (mg_of X G a26) (Fun.binds1 F26) (bd_1 F26);have aa8:ak_8 l.prog w K mg base:=c_7 F27 (mg_of X G a27) (Fun.binds3 F27) (bd_2 F27 j1 u0 t9 j0 g8 al0);have y7:ag_8 l.prog w K mg base:=c_7 F28 (mg_of X G a28) (Fun.binds3 F28) (at_1 F28 aa8 k4);have aa1:ak_9 l.prog w K mg base:=c_7 F29 (mg_of X G a29) (Fun.binds3 F29) (bd_3 F29 y7 j1 t9 g8 al6);have al9:bu_2 l.prog w K mg base:=c_7 F30 (mg_of X G a30) (Fun.binds1 F30) (ci_4 F30 ab8);have ab4:bc_4 l.prog w K mg base:=c_7 F31 (mg_of X G a31) (Fun.binds1 F31) (ci_5 F31 y3 al9 c8 ak3 ab7 ab6);have k9:MakB l.prog w K mg base true "House" "Halved" 1 1 b_9:=⟨al5,g9,_,_,_,l4,bk4,a32,u_1 F32 l4 k8,(Fun.binds2 F32)⟩;have u9:MakD l.prog w K mg base true "Halved" 6 3 f_1:=⟨g9,_,_,_,l4,ar8,⟨ba3,a33,i33,au4⟩,ad_7 F33 l4 ab3 aa1 ab4 k9 z7 v6,(Fun.binds4 F33)⟩;have ad4:aq_5 l.prog w K mg base:=c_7 F34 (mg_of X G a34) (Fun.binds3 F34) (bl_0 F34 k7 u9 r6 n8 v9 v7 af0 u5 aa5 ab1 af3);have u6:al_0 l.prog w K mg base:=c_7 F35 (mg_of X G a35) (Fun.binds3 F35) (bd_4 F35 ad9 z6 o7 ad4 ae1 g8 c8 ae6 y4);have x4:aa_1 l.prog w K mg base:=c_7 F36 (mg_of X G a36) (Fun.binds2 F36) (x_2 F36 (mg_of X G a36) (Fun.binds2 F36) j1 j0 70);have ac4:MethD l.prog w K mg base true 72 1 "number_of" "Halved" c_6:=⟨⟨g9,_,_,_,l4,q9,⟨a37,i37,k37⟩,ab_3 F37 ab4 j1 j0 u0 x4 k8 z7 v6,(Fun.binds2 F37)⟩⟩;have m7:MethT l.prog w K mg base true 72 1 "number_of" [("Halved",c_6)]:=(.one ac4 (by decide) .nil);have aj7:MethD l.prog w K mg base true 73 1 "room" "Halved" e_0:=⟨⟨g9,_,_,_,l4,q9,⟨a38,i38,k38⟩,aq_9 F38 m7 k8 ai8,(Fun.binds2 F38)⟩⟩;have l3:MethT l.prog w K mg base true 73 1 "room" [("Halved",e_0)]:=(.one aj7 (by decide) .nil);have ag7:MethD l.prog w K mg base true 74 1 "rooms" "Halved" f_2:=⟨⟨g9,_,_,_,l4,q9,⟨a39,i39,k39⟩,al_5 F39 k6 l3,(Fun.binds2 F39)⟩⟩;have u7:MethT l.prog w K mg base true 74 1 "rooms" [("Halved",f_2)]:=(.one ag7 (by decide) .nil);have z9:ag_9 l.prog w K mg base:=c_7 F40 (mg_of X G a40) (Fun.binds4 F40) (at_2 F40 k7 l3 u7 g8 n8 u5 af3);exact cv_1 (cx_8 (P:=l.prog) (w:=w) (base:=base) F41 ad1 j4 h8 o5 v5 u6 z9 l6 u9 k4) ci_2
end My


open PySem PySem.W PyProof.Rows
set_option maxRecDepth 100000 in
set_option maxHeartbeats 0 in
theorem PySem.Challenge.cw_lodge_k67_halves_refused_holds : PySem.Challenge.rw_lodge_k67_halves_refused.Holds := by
 w_on; o_law; k_head; (case hw => w_witness2)
 k_fill
 refine L3.db_0 (l := PySem.Challenge.rw_lodge_k67_halves_refused) (x := "_law_script") (k := 76) rfl rfl ⟨rfl, by decide, by decide⟩ (fun w h Y => PySem.W.kIn_of Y) ?F
 case F =>
  intro w mg fa h KX G hmg
  refine' My.cx_9 KX G hmg ?c1 ?c2 ?c3 ?c4 ?c5 ?c6 ?c7 ?c8 ?c9 ?c10 ?c11 ?c12 ?c13 ?c14 ?c15 ?c16 ?c17 ?c18 ?c19 ?c20 ?c21 ?c22 ?c23 ?c24 ?c25 ?c26 ?c27 ?c28 ?c29 ?c30 ?c31 ?c32 ?c33 ?c34 ?c35 ?c36 ?c37 ?c38 ?c39 ?c40 ?c41 ?c42 ?c43 ?c44 ?c45 ?c46 ?c47 ?c48 ?c49 ?c50 ?c51 ?c52 ?c53 ?c54 ?c55 ?c56 ?c57 ?c58 ?c59 ?c60 ?c61 ?c62 ?c63 ?c64 ?c65 ?c66 ?c67 ?c68 ?c69 ?c70 ?c71 ?c72 ?c73 ?c74 ?c75 ?c76 ?c77 ?c78 ?c79 ?c80 ?c81 ?c82 ?c83 ?c84 ?c85 ?c86 ?c87 ?c88 ?c89 ?c90 ?c91 ?c92 ?c93 ?c94 ?c95 ?c96 ?c97 ?c98 ?c99 ?c100 ?c101 ?c102 ?c103 ?c104 ?c105 ?c106 ?c107 ?c108 ?c109 ?c110 ?c111 ?c112 ?c113 ?c114 ?c115 ?c116 ?c117 ?c118 ?c119 ?c120 ?c121 ?c122 ?c123 ?c124 ?c125 ?c126 ?c127 ?c128 ?c129 ?c130 ?c131 ?c132 ?c133 ?c134 ?c135 ?c136 ?c137 ?c138 ?c139 ?c140 ?c141 ?c142 ?c143 ?c144 ?c145 ?c146 ?c147 ?c148 ?c149 ?c150 ?c151 ?c152 ?c153 ?c154 ?c155 ?c156 ?c157 ?c158 ?c159 ?c160 ?c161 ?c162 ?c163 ?c164 ?c165 ?c166 ?c167 ?c168 ?c169 ?c170 ?c171 ?c172 ?c173 ?c174 ?c175 ?c176 ?c177 ?c178 ?c179 ?c180 ?c181 ?c182 ?c183 ?c184 ?c185 ?c186 ?c187 ?c188 ?c189 ?c190 ?c191 ?c192 ?c193 ?c194 ?c195 ?c196 ?c197 ?c198 ?c199 ?c200 ?c201 ?c202 ?c203 ?c204 ?c205 ?c206 ?c207 ?c208 ?c209 ?c210 ?c211 ?c212 ?c213 ?c214 ?c215 ?c216 ?c217 ?c218 ?c219 ?c220 ?c221 ?c222 ?c223 ?c224 ?c225 ?c226 ?c227 ?c228 ?c229 ?c230 ?c231 ?c232
  (case c1 | c2 | c3 | c4 | c5 | c6 | c7 | c8 | c9 | c10 | c11 | c52 | c53 | c54 | c55 | c56 | c57 | c58 | c59 | c60 | c61 | c62 | c63 | c64 | c65 | c66 | c67 | c68 | c69 | c88 | c89 | c90 | c91 | c92 | c93 | c94 | c95 | c96 | c97 | c98 | c99 | c100 | c101 | c102 | c103 | c104 | c105 | c106 | c107 | c110 | c111 | c114 | c115 | c116 | c117 | c118 | c119 | c120 | c121 | c122 | c123 | c124 | c125 | c138 | c139 | c140 | c143 | c144 | c147 | c148 | c149 | c150 | c151 | c152 | c153 | c154 | c155 | c156 | c157 | c158 | c171 | c172 | c173 | c176 | c177 | c180 | c181 | c182 | c183 | c184 | c185 | c186 | c187 | c188 | c189 | c190 | c191 | c204 | c205 | c208 | c209 | c212 | c213 | c214 | c215 | c216 | c217 | c218 | c231 | c232 => k_is)
  (case c12 | c13 | c14 | c15 | c16 | c17 | c18 | c19 | c20 | c21 | c22 | c23 | c24 | c25 | c26 | c27 | c28 | c29 | c30 | c31 | c32 | c33 | c34 | c35 | c36 | c37 | c38 | c39 | c40 | c41 | c42 | c45 | c46 | c47 | c51 => (refine' L3.FnTop.mk ?a ?l ?c ?k; (case a => k_is); (case l => k_is); (case c => k_is); (case k => k_is)))
  (case c43 => (refine' L3.FnBase.mk ?s ?r ?a ?l ?c ?k; (case s => k_is); (case r => k_is); (case a => k_is); (case l => k_is); (case c => k_is); (case k => k_is)))
  (case c44 | c48 | c49 | c50 => (refine' L3.FnMet.mk ?a ?l ?c ?k ?i; (case a => k_is); (case l => k_is); (case c => k_is); (case k => k_is); (case i => k_is)))
  (case c70 | c71 | c72 | c73 | c74 | c75 | c76 | c77 | c78 | c79 | c80 | c81 | c82 | c83 | c84 | c85 | c86 | c87 | c130 | c131 | c132 | c133 | c134 | c135 | c136 | c137 | c163 | c164 | c165 | c166 | c167 | c168 | c169 | c170 | c196 | c197 | c198 | c199 | c200 | c201 | c202 | c203 | c223 | c224 | c225 | c226 | c227 | c228 | c229 | c230 => kit_is)
  (case c108 | c109 | c112 | c113 | c141 | c142 | c145 | c146 | c174 | c175 | c178 | c179 | c206 | c207 | c210 | c211 => rfl)
  (case c126 | c127 | c128 | c129 | c159 | c160 | c161 | c162 | c192 | c193 | c194 | c195 | c219 | c220 | c221 | c222 => kts_exm)

end
