import PyProof.Rows.All
import Wide.All
import OpenK.AllK
import Wide.FinOn
import Lean
import PyProof.EqAt
import PyProof.EqKinds
import PyProof.TupleCall
import PySem.Challenge.RW_lodge_k66_halves_by_rule
set_option Elab.async false
set_option linter.all false
set_option maxRecDepth 100000
set_option genSizeOf false
namespace PySem.W.Fast
def tw3229565564589432069 := 0
def tw13626364522478293053 := 0
def tw9788952898163602854 := 0
def tw10975216699823810697 := 0
def tw7820621618655351192 := 0
def tw18307689839120967335 := 0
def tw16151953532553578207 := 0
def tw9545183208774080940 := 0
def tw1879600652141390055 := 0
def tw3847962184962804777 := 0
def tw11067481279934550351 := 0
def tw7864697332199244988 := 0
def tw10847778258541703018 := 0
def tw14014365711901741983 := 0
def tw10056959458618845249 := 0
def tw17309398022612940960 := 0
def tw9995247897071487101 := 0
def tw5855882208713670562 := 0
def tw9229033668297227309 := 0
def tw17918682500265338667 := 0
def tw10780876969665729631 := 0
def tw9625975510225801056 := 0
def tw3478125242764212892 := 0
def tw12343739676715207266 := 0
def tw11618787094157735875 := 0
def tw1593483944428592976 := 0
def tw13663041246916246275 := 0
def tw12731890491417521649 := 0
def tw6196797932003760154 := 0
def tw7653616497567715664 := 0
end PySem.W.Fast
noncomputable section
open PySem.W (Frag InitBack InstAt Looks any_some bind_fn callWith_K callWith_K0 cellsFrom_some check_slot clsIn cls_value codeIn codeRec_of emptyDict eq_bytes exmOne exm_one findCls findIn findObj_own fnOf get_value handedIn handedOut_of hasDictIn hideAll hideAll_get hideAll_none hideAll_size instObj isFn keepIn kia_one kitAny kitOne kitx_bool kitx_int kitx_list kitx_none kitx_str kitx_tuple kun_itemsOf lookIn looks_clsIn looks_find looks_findIn looks_mroIn make_core makesIn makes_of methodCall_KW methodObj method_cls method_fn mg_none_of mg_of mroIn ne_bytes notCls nsIn of_hideAll osa_eq osa_open plainGet plainGet_of plainOver readsIn set_plain specialIn takerIn takesIn truthy_bytes typeIn)
local macro_rules
 | `(tactic| simp_arith [$xs,*] $[$l:location]?) => `(tactic| simp only [Nat.reduceAdd, Nat.reduceSub, Nat.reduceLeDiff, ↓reduceIte, reduceCtorEq, $xs,*] $[$l:location]?)
namespace L2
open PySem PySem.Spec PyProof.Rows
abbrev Key:=Sum Int Str
def ar_4:Key→Value→Bool
 | .inl k,v=>Value.isInt k v
 | .inr x,v=>Value.isStrOf x v
def keyH(w:World):Key→Int
 | .inl k=>hashInt k
 | .inr x=>hashStr w x
theorem g_0:∀{k:Key} {v:Value},ar_4 k v=true→(∃i t,k=Sum.inl i∧v=Value.int i t)∨(∃x t,k=Sum.inr x∧v=Value.str x t)
 | .inl i,v,h=>by
  obtain⟨t,e⟩:=Value.isInt_shape (k:=i) (v:=v) h
  exact .inl ⟨i,t,rfl,e⟩
 | .inr x,v,h=>by
  obtain⟨t,e⟩:=Value.isStrOf_shape (x:=x) (v:=v) h
  exact .inr ⟨x,t,rfl,e⟩
theorem bq_6(i:Int)(t:Tok):ar_4 (.inl i) (.int i t)=true:=by simp [ar_4,Value.isInt]
theorem bq_7(x:Str)(t:Tok):ar_4 (.inr x) (.str x t)=true:=by simp [ar_4,Value.isStrOf]
theorem cn_3(a b:Int):decide ((Sum.inl a:Key)=Sum.inl b)=(a ==b):=by
 by_cases e:a=b
 ·subst e;simp
 ·have h:¬(Sum.inl a:Key)=Sum.inl b:=fun q=>e (Sum.inl.inj q)
  rw [decide_eq_false h]
  exact(beq_eq_false_iff_ne.mpr e).symm
theorem cn_4(a b:Str):decide ((Sum.inr a:Key)=Sum.inr b)=decide (a=b):=by
 by_cases e:a=b
 ·subst e;simp
 ·have h:¬(Sum.inr a:Key)=Sum.inr b:=fun q=>e (Sum.inr.inj q)
  rw [decide_eq_false h,decide_eq_false e]
theorem cn_5(a:Int)(b:Str):decide ((Sum.inl a:Key)=Sum.inr b)=false:=decide_eq_false (fun q=>nomatch q)
theorem cn_6(a:Str)(b:Int):decide ((Sum.inr a:Key)=Sum.inl b)=false:=decide_eq_false (fun q=>nomatch q)
def i_1(prog:Program)(w:World):PySem.KeyKind prog w Key where
 is:=ar_4
 hash:=keyH w
 inj:=fun v a b ha hb=>by
  rcases g_0 ha with⟨i,t,rfl,rfl⟩|⟨x,t,rfl,rfl⟩
  ·rcases g_0 hb with⟨j,u,rfl,e⟩|⟨y,u,rfl,e⟩
   ·injection e with e1 _;rw [e1]
   ·exact nomatch e
  ·rcases g_0 hb with⟨j,u,rfl,e⟩|⟨y,u,rfl,e⟩
   ·exact nomatch e
   ·injection e with e1 _;rw [e1]
 byValue:=fun k v h=>by
  rcases g_0 h with⟨i,t,rfl,rfl⟩|⟨x,t,rfl,rfl⟩ <;> rfl
 pyHash:=fun hv h=>by
  rcases g_0 hv with⟨i,t,rfl,rfl⟩|⟨x,t,rfl,rfl⟩
  ·exact wpAny_pyHash_int h
  ·exact wpAny_pyHash_str h
 eqBool:=fun hu hv h=>by
  rcases g_0 hu with⟨i,t,rfl,rfl⟩|⟨x,t,rfl,rfl⟩
  ·rcases g_0 hv with⟨j,u,rfl,rfl⟩|⟨y,u,rfl,rfl⟩
   ·rw [cn_3] at h;exact wpAny_eqBool_int h
   ·rw [cn_5] at h;exact SeqAt.EqAt.int_str i t y u _ _ _ _ h
  ·rcases g_0 hv with⟨j,u,rfl,rfl⟩|⟨y,u,rfl,rfl⟩
   ·rw [cn_6] at h;exact SeqAt.EqAt.str_int x t j u _ _ _ _ h
   ·rw [cn_4] at h;exact wpAny_eqBool_str h
 «strs»:=fun k x t v h=>by
  rcases g_0 h with⟨i,u,rfl,e⟩|⟨y,u,rfl,e⟩
  ·exact nomatch e
  ·injection e with e1 _
   subst e1
   cases v <;> rfl
theorem bb_2(prog:Program)(w:World)(i:Int)(t:Tok):(i_1 prog w).is (.inl i) (.int i t)=true:=bq_6 i t
theorem bb_3(prog:Program)(w:World)(x:Str)(t:Tok):(i_1 prog w).is (.inr x) (.str x t)=true:=bq_7 x t
inductive V where
 |non|bl (b:Bool)|int (i:Int)|str (x:Str)|byt (b:Array UInt8)|flt (b:UInt64)|ref (a:Addr)|ty (n:String)
 deriving DecidableEq
def RelV:V→Value→Prop
 | .non,u=>u=Value.none
 | .bl b,u=>u=Value.bool b
 | .int i,u=>∃t,u=Value.int i t
 | .str x,u=>∃t,u=Value.str x t
 | .byt b,u=>∃t,u=Value.bytes b t
 | .flt b,u=>∃t,u=Value.float b t
 | .ref a,u=>u=Value.ref a
 | .ty n,u=>u=Value.type n
abbrev Vals:List V→List Value→Prop:=Paired RelV
theorem Vals.length{xs:List V}{us:List Value}(r:Vals xs us):xs.length=us.length:=Paired.length r
theorem Vals.get:∀{xs:List V} {us:List Value} {i:Nat} {x:V},Vals xs us→xs[i]? =some x→∃u,us[i]? =some u∧RelV x u
 |_,_,_,_, .nil,e=>by simp at e
 |_,_,0,_, .cons r _,e=>by simp at e;subst e;exact⟨_,rfl,r⟩
 |_,_,i + 1,x, .cons _ t,e=>by
  obtain⟨u,h1,h2⟩:=Vals.get (i:=i) (x:=x) t (by simpa using e)
  exact⟨u,by simpa using h1,h2⟩
theorem Vals.set{x:V}{u:Value}(r:RelV x u):∀{xs:List V} {us:List Value} (i:Nat),Vals xs us→Vals (xs.set i x) (us.set i u)
 |_,_,_, .nil=> .nil
 |_,_,0, .cons _ t=> .cons r t
 |_,_,i + 1, .cons q t=> .cons q (Vals.set r i t)
theorem Vals.append:∀{xs ys:List V} {us ws:List Value},Vals xs us→Vals ys ws→Vals (xs ++ ys) (us ++ ws)
 |_,_,_,_, .nil,s=>s
 |_,_,_,_, .cons r t,s=> .cons r (Vals.append t s)
theorem Vals.take:∀{xs:List V} {us:List Value} (n:Nat),Vals xs us→Vals (xs.take n) (us.take n)
 |_,_,0,_=> .nil
 |_,_,_ + 1, .nil=> .nil
 |_,_,n + 1, .cons r t=> .cons r (Vals.take n t)
theorem Vals.drop:∀{xs:List V} {us:List Value} (n:Nat),Vals xs us→Vals (xs.drop n) (us.drop n)
 |_,_,0,r=>r
 |_,_,_ + 1, .nil=> .nil
 |_,_,n + 1, .cons _ t=>Vals.drop n t
theorem Vals.none_of:∀{xs:List V} {us:List Value} {i:Nat},Vals xs us→xs[i]? =none→us[i]? =none:=fun{xs us i} r e=>by
 have h1:=r.length
 have h2:xs.length≤i:=List.getElem?_eq_none_iff.mp e
 exact List.getElem?_eq_none_iff.mpr (by omega)
def RelO:Option V→Option Value→Prop
 |some v,some u=>RelV v u
 |none,none=>True
 |_,_=>False
def KV{κ:Type}:List (κ×V)→List (κ×Value)→Prop:=Paired fun(p:κ×V) (q:κ×Value)=>p.1=q.1∧RelV p.2 q.2
def kV:Key→V
 | .inl i=> .int i
 | .inr x=> .str x
inductive HO where
  |lst (xs:List V)
  |tup (xs:List V)
  |dK (kvs:List (Key×V))|dT (kvs:List (List Key×V))
  |set (S:Int→Bool) (n:Nat)
  |ins (C dx:Addr) (fs:List (Str×V))
  |own (x:Addr)
  |xd (fs:List (Str×V))
  |met (f x:Addr)
  |rng (lo hi:Int)
  |frz (o:Obj) (u:HO)
  |tbl (ps:Array Value)
  |ext (φ:Heap→Prop)
abbrev Hp:=Addr→Option HO
def upd(H:Hp)(a:Addr)(o:HO):Hp:=fun b=>if b=a then some o else H b
theorem b_6{H:Hp}{a:Addr}{o:HO}:upd H a o a=some o:=by unfold upd;rw [if_pos rfl]
theorem b_0{H:Hp}{a b:Addr}{o:HO}(h:b≠a):upd H a o b=H b:=by unfold upd;rw [if_neg h]
theorem cu_0{H:Hp}{a b:Addr}{o u:HO}(h:H a=some o)(h':H b=some u)(d:o≠u):a≠b:=by
 intro e;subst e;rw [h] at h';exact d (Option.some.inj h')
theorem b_8{H:Hp}{a b:Addr}{o:HO}(h:H a=some o)(h':H b=none):a≠b:=by
 intro e;subst e;rw [h] at h';cases h'
section
variable(P:Program)(w:World)
def ObjOk(H:Hp)(h:Heap)(a:Addr):HO→Prop
 | .lst xs=>xs.length≤sizeLine∧∃(its:List Value) (n:Nat),Vals xs its∧h.get? a=some {cls:= .type "list",data:= .seq its.toArray n}
 | .tup xs=>xs.length≤sizeLine∧∃its:List Value,Vals xs its∧IsTup h a its.toArray
 | .dK kvs=>kvs.length≤sizeLine∧(a ==sysModules)=false∧∃vs,KV kvs vs∧h.DictOf (i_1 P w) a vs
 | .dT kvs=>kvs.length≤sizeLine∧(a ==sysModules)=false∧∃xs:List (List Key×Addr×Value),
   Paired (fun(p:List Key×V) (q:List Key×Addr×Value)=>p.1=q.1∧H q.2.1=some (.tup (p.1.map kV))∧RelV p.2 q.2.2) kvs xs∧
   ∃o es ep,h.get? a=some o∧o.ExactDict∧o.data= .dict es ep∧es.toList=xs.map (entryOfKey (tupleKind (i_1 P w)))∧(xs.map (·.1)).Nodup
 | .set S n=>h.SetOf (intKind P w) a S n
 | .ins C dx fs=>H dx=some (.own a)∧fs.length≤1000∧dx≠a∧h.get? a=some (instObj C dx)∧
   ∃mA,h.Ns1 dx mA∧(∀f,RelO (fs.lookup f) (mA f))∧PySem.Within mA (fs.map (·.1))
 | .own _=>∃o,h.get? a=some o
 | .xd fs=>∃mA,h.Ns1 a mA∧∀f,RelO (fs.lookup f) (mA f)
 | .rng lo hi=>∃t u v,h.get? a=some {cls:= .type "range",data:= .fields #[.int lo t, .int hi u, .int 1 v]}
 | .frz o u=>h.get? a=some o∧ObjOk H h a u
 | .tbl ps=>h.get? a=some {cls:= .none,data:= .fields ps}
 | .met f x=>h.get? a=some (methodObj (.ref f) (.ref x))
 | .ext φ=>φ h∧(∃o,h.get? a=some o)∧∀h1 h2:Heap,φ h1→(∀o,h1.get? a=some o→h2.get? a=some o)→φ h2
def HOk(H:Hp)(h:Heap):Prop:=∀a o,H a=some o→ObjOk P w H h a o
end
section
variable{P:Program}{w:World}{H H':Hp}{h h':Heap}{a:Addr}{o:HO}
theorem ObjOk.lt(x:ObjOk P w H h a o):a < h.objs.size:=by
 cases o with
 |lst xs=>obtain⟨_,_,_,_,e⟩:=x;exact Heap.lt_size e
 |tup xs=>obtain⟨_,_,_,p⟩:=x;exact p.lt
 |dK kvs=>obtain⟨_,_,_,_,o,_,_,e,_⟩:=x;exact Heap.lt_size e
 |dT kvs=>obtain⟨_,_,_,_,o,_,_,e,_⟩:=x;exact Heap.lt_size e
 |set S n=>obtain⟨o,_,_,_,e,_⟩:=x;exact Heap.lt_size e
 |ins C dx fs=>obtain⟨_,_,_,e,_⟩:=x;exact Heap.lt_size e
 |own y=>obtain⟨_,e⟩:=x;exact Heap.lt_size e
 |xd fs=>obtain⟨_,⟨_,_,_,e,_⟩,_⟩:=x;exact Heap.lt_size e
 |rng lo hi=>obtain⟨_,_,_,e⟩:=x;exact Heap.lt_size e
 |frz ob u=>obtain⟨e,_⟩:=x;exact Heap.lt_size e
 |tbl ps=>exact Heap.lt_size (show h.get? a=some _ from x)
 |met f y=>exact Heap.lt_size (show h.get? a=some _ from x)
 |ext φ=>obtain⟨_,⟨_,e⟩,_⟩:=x;exact Heap.lt_size e
theorem Paired.mapP{α β:Type}{F G:α→β→Prop}:∀{l₁:List α} {l₂:List β},Paired F l₁ l₂→(∀a b,F a b→G a b)→Paired G l₁ l₂
 |_,_, .nil,_=> .nil
 |_,_, .cons r t,f=> .cons (f _ _ r) (Paired.mapP t f)
theorem ObjOk.stay(x:ObjOk P w H h a o)(k:∀b u,(b=a∨H b=some (.own a))→h.get? b=some u→h'.get? b=some u)
  (ho:∀b,H b=some (.own a)→H' b=some (.own a)) (ht:∀b xs,H b=some (.tup xs)→H' b=some (.tup xs)):ObjOk P w H' h' a o:=by
 induction o with
 |lst xs=>obtain⟨z,its,n,r,e⟩:=x;exact⟨z,its,n,r,k _ _ (.inl rfl) e⟩
 |tup xs=>obtain⟨z,its,r,ob,e,c⟩:=x;exact⟨z,its,r,ob,k _ _ (.inl rfl) e,c⟩
 |dK kvs=>obtain⟨z,y,vs,r,ob,es,ep,e,c⟩:=x;exact⟨z,y,vs,r,ob,es,ep,k _ _ (.inl rfl) e,c⟩
 |dT kvs=>
  obtain⟨z,y,xs,r,ob,es,ep,e,c⟩:=x
  exact⟨z,y,xs,Paired.mapP r fun p q z=>⟨z.1,ht _ _ z.2.1,z.2.2⟩,ob,es,ep,k _ _ (.inl rfl) e,c⟩
 |set S n=>obtain⟨ob,es,ep,t,e,c⟩:=x;exact⟨ob,es,ep,t,k _ _ (.inl rfl) e,c⟩
 |ins C dx fs=>
  obtain⟨d,z,ne,e,mA,⟨od,es,ep,e2,c⟩,r⟩:=x
  exact⟨ho _ d,z,ne,k _ _ (.inl rfl) e,mA,⟨od,es,ep,k _ _ (.inr d) e2,c⟩,r⟩
 |own y=>obtain⟨ob,e⟩:=x;exact⟨ob,k _ _ (.inl rfl) e⟩
 |xd fs=>obtain⟨mA,⟨od,es,ep,e,c⟩,r⟩:=x;exact⟨mA,⟨od,es,ep,k _ _ (.inl rfl) e,c⟩,r⟩
 |rng lo hi=>obtain⟨t,u,v,e⟩:=x;exact⟨t,u,v,k _ _ (.inl rfl) e⟩
 |frz ob u ih=>obtain⟨e,q⟩:=x;exact⟨k _ _ (.inl rfl) e,ih q⟩
 |tbl ps=>
  have e:h.get? a=some {cls:= .none,data:= .fields ps}:=x
  show h'.get? a=some {cls:= .none,data:= .fields ps}
  exact k a _ (.inl rfl) e
 |met f y=>
  have e:h.get? a=some (methodObj (.ref f) (.ref y)):=x
  show h'.get? a=some (methodObj (.ref f) (.ref y))
  exact k a _ (.inl rfl) e
 |ext φ=>obtain⟨p,⟨o,e⟩,st⟩:=x;exact⟨st _ _ p fun o q=>k _ _ (.inl rfl) q,⟨o,k _ _ (.inl rfl) e⟩,st⟩
theorem HOk.lt(x:HOk P w H h)(e:H a=some o):a < h.objs.size:=(x a o e).lt
theorem HOk.fresh(x:HOk P w H h)(e:h.objs.size≤a):H a=none:=by
 cases q:H a with
 |none=>rfl
 |some u=>exact absurd (Nat.lt_of_lt_of_le (x.lt q) e) (Nat.lt_irrefl _)
theorem HOk.kept(x:HOk P w H h)(k:∀b u,h.get? b=some u→h'.get? b=some u):HOk P w H h':=fun a o e=>
 (x a o e).stay (fun b u _ q=>k b u q) (fun _ q=>q) fun _ _ q=>q
theorem HOk.laid(x:HOk P w H h)(k:∀b u,h.get? b=some u→h'.get? b=some u)(hp:h.objs.size≤a)(new:ObjOk P w (upd H a o) h' a o):HOk P w (upd H a o) h':=fun b u e=>by
 have hn:=x.fresh hp
 by_cases hb:b=a
 ·subst hb;rw [b_6] at e;cases e;exact new
 ·rw [b_0 hb] at e
  exact(x b u e).stay (fun c v _ q=>k c v q) (fun c q=>by rw [b_0 (b_8 q hn)];exact q) fun c xs q=>by rw [b_0 (b_8 q hn)];exact q
end
def Rd(H:Hp)(a:Addr)(u:HO):Prop:=H a=some u∨∃o,H a=some (.frz o u)
theorem Rd.of{H:Hp}{a:Addr}{u:HO}(h:H a=some u):Rd H a u:= .inl h
theorem Rd.ok{P:Program}{w:World}{H:Hp}{h:Heap}{a:Addr}{u:HO}(r:Rd H a u)(x:HOk P w H h):ObjOk P w H h a u:=by
 rcases r with r|⟨o,r⟩
 ·exact x a u r
 ·obtain⟨_,q⟩:=x a _ r
  exact q
def Mut:Option HO→Prop
 |some (.lst _)=>True
 |some (.dK _)=>True
 |some (.dT _)=>True
 |some (.set _ _)=>True
 |some (.ins _ _ _)=>True
 |some (.ext _)=>True
 |_=>False
section
variable{P:Program}{w:World}{H:Hp}{h h':Heap}{x e:Addr}{o':HO}
theorem HOk.write(ok:HOk P w H h)(mu:Mut (H x))(he:e=x∨H e=some (.own x))(k:∀b u,b≠e→h.get? b=some u→h'.get? b=some u)(heo:∃u,h'.get? e=some u)
  (new:ObjOk P w (upd H x o') h' x o'):HOk P w (upd H x o') h':=fun b u q=>by
 have dg:∀c y,H c=some (.own y)→c≠x:=fun c y r z=>by subst z;rw [r] at mu;exact mu
 have dw:∀c xs,H c=some (.tup xs)→c≠x:=fun c xs r z=>by subst z;rw [r] at mu;exact mu
 by_cases hb:b=x
 ·subst hb;rw [b_6] at q;cases q;exact new
 ·rw [b_0 hb] at q
  by_cases hbe:b=e
  ·have q':H b=some (.own x):=by
    rcases he with z|z
    ·exact absurd (hbe.trans z) hb
    ·rw [hbe];exact z
   rw [q] at q';cases q'
   obtain⟨v,hv⟩:=heo
   exact⟨v,by rw [hbe];exact hv⟩
  ·refine(ok b u q).stay (fun c v hc r=>k c v ?_ r) (fun c r=>by rw [b_0 (dg c b r)];exact r) fun c xs r=>by rw [b_0 (dw c xs r)];exact r
   rcases hc with rfl|hc
   ·exact hbe
   ·rintro rfl
    rcases he with z|z
    ·exact dg c b hc z
    ·rw [hc] at z;cases z;exact hb rfl
end
structure Un(fs ex:List Addr)(H H':Hp)(h h':Heap):Prop where
 keep:∀b o,h.get? b=some o→H b=none→b∉fs→b∉ex→h'.get? b=some o
 slot:∀b o,h.get? b=some o→H b=none→b∈fs→b∉ex→∃sl,h'.get? b=some {o with slots:=sl}
 free:∀b o,h.get? b=some o→H b=none→b∉ex→H' b=none
 there:∀b o,h.get? b=some o→b∉ex→∃o',h'.get? b=some o'
 tups:∀b xs,H b=some (.tup xs)→H' b=some (.tup xs)
 frzs:∀b o u,H b=some (.frz o u)→H' b=some (.frz o u)
 tbls:∀b ps,H b=some (.tbl ps)→∃more,H' b=some (.tbl (ps ++ more))
section
variable{fs fs' ex ex':List Addr}{H H1 H2:Hp}{h h1 h2 h':Heap}{a x e:Addr}{o:HO}
theorem Un.any(u:Un fs ex H H1 h h1){b:Addr}{ob:Obj}(q:h.get? b=some ob)(n:H b=none)(hx:b∉ex):∃sl,h1.get? b=some {ob with slots:=sl}:=by
 by_cases hb:b∈fs
 ·exact u.slot b ob q n hb hx
 ·exact⟨ob.slots,u.keep b ob q n hb hx⟩
theorem Un.trans(a:Un fs ex H H1 h h1)(b:Un fs ex H1 H2 h1 h2):Un fs ex H H2 h h2 where
 keep:=fun c ob q n hc hx=>b.keep c ob (a.keep c ob q n hc hx) (a.free c ob q n hx) hc hx
 slot:=fun c ob q n hc hx=>by
  obtain⟨sl,e1⟩:=a.slot c ob q n hc hx
  obtain⟨sl',e2⟩:=b.slot c _ e1 (a.free c ob q n hx) hc hx
  exact⟨sl',e2⟩
 free:=fun c ob q n hx=>by
  obtain⟨o',e1⟩:=a.there c ob q hx
  exact b.free c o' e1 (a.free c ob q n hx) hx
 there:=fun c ob q hx=>by
  obtain⟨o',e1⟩:=a.there c ob q hx
  exact b.there c o' e1 hx
 tups:=fun c xs q=>b.tups c xs (a.tups c xs q)
 frzs:=fun c ob xs q=>b.frzs c ob xs (a.frzs c ob xs q)
 tbls:=fun c ps q=>by
  obtain⟨m1,e1⟩:=a.tbls c ps q
  obtain⟨m2,e2⟩:=b.tbls c _ e1
  exact⟨m1 ++ m2,by rw [e2,Array.append_assoc]⟩
theorem Un.kept(k:∀b u,h.get? b=some u→h'.get? b=some u):Un fs ex H H h h':=
 ⟨fun b ob q _ _ _=>k b ob q,fun b ob q _ _ _=>⟨ob.slots,k b ob q⟩,fun _ _ _ n _=>n,fun b ob q _=>⟨ob,k b ob q⟩,fun _ _ q=>q,fun _ _ _ q=>q,fun _ ps q=>⟨#[],by rw [q];simp⟩⟩
theorem Un.refl:Un fs ex H H h h:=Un.kept fun _ _ q=>q
theorem Un.laid(k:∀b u,h.get? b=some u→h'.get? b=some u)(hp:h.objs.size≤a)(hn:H a=none):Un fs ex H (upd H a o) h h' where
 keep:=fun b u q _ _ _=>k b u q
 slot:=fun b u q _ _ _=>⟨u.slots,k b u q⟩
 free:=fun b u q n _=>by rw [b_0 (Nat.ne_of_lt (Nat.lt_of_lt_of_le (Heap.lt_size q) hp))];exact n
 there:=fun b u q _=>⟨u,k b u q⟩
 tups:=fun b xs q=>by rw [b_0 (b_8 q hn)];exact q
 frzs:=fun b u xs q=>by rw [b_0 (b_8 q hn)];exact q
 tbls:=fun b ps q=>⟨#[],by rw [b_0 (b_8 q hn),q];simp⟩
theorem Un.write(mu:Mut (H x))(he:e=x∨H e=some (.own x))(k:∀b u,b≠e→h.get? b=some u→h'.get? b=some u)(heo:∃u,h'.get? e=some u):Un fs ex H (upd H x o) h h':=by
 have hx:∀b,H b=none→b≠x:=fun b n z=>by subst z;rw [n] at mu;exact mu
 have hb:∀b,H b=none→b≠e:=fun b n z=>by
  subst z
  rcases he with r|r
  ·exact hx b n r
  ·rw [n] at r;cases r
 have hm:∀b u,H b=some u→¬Mut (some u)→b≠x:=fun b u q nm z=>by subst z;rw [q] at mu;exact nm mu
 refine⟨fun b u q n _ _=>k b u (hb b n) q,fun b u q n _ _=>⟨u.slots,k b u (hb b n) q⟩,fun b u q n _=>by rw [b_0 (hx b n)];exact n,fun b u q _=> ?_,
  fun b xs q=>by rw [b_0 (hm b _ q fun z=>z)];exact q,fun b u xs q=>by rw [b_0 (hm b _ q fun z=>z)];exact q,fun b ps q=>⟨#[],by rw [b_0 (hm b _ q fun z=>z),q];simp⟩⟩
 by_cases hbe:b=e
 ·subst hbe;exact heo
 ·exact⟨u,k b u hbe q⟩
theorem Un.mono(u:Un fs ex H H1 h h1)(hs:∀b∈fs,b∈fs')(hx:∀b∈ex,b∈ex'):Un fs' ex' H H1 h h1:=
 ⟨fun b ob q n hb he=>u.keep b ob q n (fun z=>hb (hs b z)) fun z=>he (hx b z),fun _ _ q n _ he=>u.any q n fun z=>he (hx _ z),fun b ob q n he=>u.free b ob q n fun z=>he (hx b z),fun b ob q he=>u.there b ob q fun z=>he (hx b z),u.tups,u.frzs,u.tbls⟩
end
def trk(h:Heap)(H:Hp):List Addr:=(List.range h.objs.size).filter fun a=>(H a).isSome
def hidT(h:Heap)(H:Hp):Heap:=hideAll h (trk h H)
theorem bq_8(h:Heap)(H:Hp):(hidT h H).objs.size=h.objs.size:=hideAll_size _ _
theorem bu_9{h:Heap}{H:Hp}{b:Addr}{o:Obj}(e:h.get? b=some o)(n:H b=none):(hidT h H).get? b=some o:=
 hideAll_get _ e fun hm=>by
  have q:(H b).isSome=true:=(List.mem_filter.mp hm).2
  rw [n] at q;simp at q
theorem ce_3{h:Heap}{H:Hp}{b:Addr}{o:Obj}(e:(hidT h H).get? b=some o):h.get? b=some o∧H b=none:=by
 have e':h.get? b=some o:=of_hideAll (trk h H) e
 refine⟨e', ?_⟩
 cases q:H b with
 |none=>rfl
 |some x=>
  have hm:b∈trk h H:=List.mem_filter.mpr ⟨List.mem_range.mpr (Heap.lt_size e'),by simp [q]⟩
  have z:(hidT h H).get? b=none:=hideAll_none (trk h H) hm
  rw [z] at e;cases e
def ce_4(g h:Heap)(L:Addr):List (Addr×Obj):=(List.range h.objs.size).filterMap fun a=>if a=L∨(g.get? a).isSome=true then none else(h.get? a).map fun o=>(a,o)
def v_2(g h:Heap)(L d:Addr):List (Addr×Obj):=(ce_4 g h L).filter fun p=>decide (p.1≠d)
structure Mod(K:Frag)(mg:Str→Option Value)(base:Heap):Prop where
 kin:K.In base
 glob:base.Ns mainGlobals mg
 blt:∃mb,base.Ns builtinsNs mb∧∀x:Str,x≠ "__name__" →mb x=bootBuiltins x
 nolimit:base.NoLimit
structure Cx where
 prog:Program
 w:World
 K:Frag
 mg:Str→Option Value
 base:Heap
 A:Around
 N:List Str
 s₀:Shared
 H₀:Hp
 env:Env
 outer:List Env
 stack:List Env
 ex:List Addr
 fn:Str→Bool
 calm:Bool
 pn:List (Addr×Obj)
 xe:Value→Shared→Prop
def frs(l:List Env):List Addr:=l.filterMap (·.frame)
abbrev Cx.fs(X:Cx):List Addr:=frs X.outer
def Vis(sc:Scope)(x:Str):Prop:=sc.names.lookup x=some .local∨sc.names.lookup x=some .cell∨sc.names.lookup x=some .free
def Loc(sc:Scope)(x:Str):Prop:=sc.names.lookup x=some .local∨sc.names.lookup x=some .cell
def Look(env:Env)(h:Heap)(m:Str→Option Value)(x:Str)(u:Value):Prop:=
 (env.kindOf x=some .local∧m x=some u)∨((env.kindOf x=some .cell∨env.kindOf x=some .free)∧∃c,env.cells.lookup x=some c∧h.IsCell c (some u))
structure Cx.Ok(X:Cx):Prop where
 mod:Mod X.K X.mg X.base
 kind:X.env.scope.kind= .function
 glob:X.env.globals=mainGlobals
 blt:X.env.builtins=builtinsNs
 above:X.s₀.heap.objs.size≤X.env.locals
 inj:∀x y c,X.env.cells.lookup x=some c→X.env.cells.lookup y=some c→x=y
 has:∀x,(X.env.kindOf x=some .cell∨X.env.kindOf x=some .free)→∃c,X.env.cells.lookup x=some c
 cab:∀x c,X.fn x=true→X.env.cells.lookup x=some c→X.s₀.heap.objs.size≤c
 hd:X.calm=true→X.A.handled=none
 frames:X.A.frames=some X.stack
 stk:X.stack=X.outer∨(X.stack=X.env::X.outer∧X.env.frame=some X.env.locals)
 exf:∀b∈X.ex,b≠X.env.locals∧∀x c,X.env.cells.lookup x=some c→c≠b
 bs:∀b o,X.base.get? b=some o→X.s₀.heap.get? b=some o∧X.H₀ b=none
 bsz:X.base.objs.size≤X.s₀.heap.objs.size
 noex:∀b o,X.base.get? b=some o→b∉X.ex
 exfs:∀b∈X.ex,b∉X.fs
 funs:X.s₀.heap.FunFrames X.base X.outer
 frf:∀b∈X.fs,X.H₀ b=none
structure Inv(X:Cx)(zd:List (Addr×Obj))(σ:List (Option V))(H:Hp)(s:Shared):Prop where
 ok:X.Ok
 os:s.os=X.s₀.os
 bare:AllBare s.gens
 base:Un X.fs X.ex X.H₀ H X.s₀.heap s.heap
 loc:∃m,s.heap.Ns X.env.locals m∧∀(i:Nat) (x:Str) (v:V),X.N[i]? =some x→σ[i]? =some (some v)→Vis X.env.scope x→∃u,RelV v u∧Look X.env s.heap m x u
 cell:∀x c,X.env.cells.lookup x=some c→∃v,s.heap.IsCell c v
 free:H X.env.locals=none
 freeC:∀x c,X.env.cells.lookup x=some c→H c=none
 pin:∀p∈X.pn ++ zd,s.heap.get? p.1=some p.2∧H p.1=none∧p.1≠X.env.locals∧p.1∉X.fs∧∀v,p.2.data≠ .cell v
 hok:HOk X.prog X.w H s.heap
 len:σ.length=X.N.length
section
variable{X:Cx}{zd:List (Addr×Obj)}{σ:List (Option V)}{H H':Hp}{s:Shared}{h':Heap}
theorem Cx.Ok.nofr(ok:X.Ok){b:Addr}{o:Obj}(e:X.base.get? b=some o):b∉X.fs:=fun hb=>by
 have:=(ok.funs.mem hb).1
 rw [e] at this;cases this
theorem Inv.bs(I:Inv X zd σ H s):∀b o,X.base.get? b=some o→s.heap.get? b=some o∧H b=none:=fun b o e=>
 ⟨I.base.keep b o (I.ok.bs b o e).1 (I.ok.bs b o e).2 (I.ok.nofr e) (I.ok.noex b o e),I.base.free b o (I.ok.bs b o e).1 (I.ok.bs b o e).2 (I.ok.noex b o e)⟩
theorem Inv.bk(I:Inv X zd σ H s):∀b o,X.base.get? b=some o→s.heap.get? b=some o:=fun b o e=>(I.bs b o e).1
theorem Inv.mod(I:Inv X zd σ H s):Mod X.K X.mg X.base:=I.ok.mod
theorem Inv.kIn(I:Inv X zd σ H s):X.K.In s.heap:=I.ok.mod.kin.keeps I.bk
theorem Inv.nolimit(I:Inv X zd σ H s):s.heap.NoLimit:=I.ok.mod.nolimit.keeps I.bk
theorem Inv.fr(I:Inv X zd σ H s):∃m,Fr X.base X.env.locals s.heap m:=
 let⟨m,hn,_⟩:=I.loc
 ⟨m,hn,I.bk,Nat.le_trans I.ok.bsz I.ok.above⟩
theorem Inv.lt(I:Inv X zd σ H s):X.env.locals < s.heap.objs.size:=let⟨_,hn,_⟩:=I.loc;hn.lt
theorem Inv.sz(I:Inv X zd σ H s):X.s₀.heap.objs.size≤s.heap.objs.size:=Nat.le_trans I.ok.above (Nat.le_of_lt I.lt)
theorem Inv.nofs(I:Inv X zd σ H s){a:Addr}(h:s.heap.objs.size≤a):a∉X.fs:=fun hb=>by
 obtain⟨_,o,ho,_⟩:=I.ok.funs.mem hb
 exact absurd (Nat.lt_of_lt_of_le (Heap.lt_size ho) (Nat.le_trans I.sz h)) (Nat.lt_irrefl _)
theorem Inv.cne(I:Inv X zd σ H s):∀x c,X.env.cells.lookup x=some c→c≠X.env.locals:=fun x c e z=>by
 obtain⟨v,o,ho,hd⟩:=I.cell x c e
 obtain⟨m,⟨o',es,ep,ho',hd',_⟩,_⟩:=I.loc
 rw [z,ho'] at ho;cases ho;rw [hd'] at hd;cases hd
theorem Inv.funs(I:Inv X zd σ H s):s.heap.FunFrames X.base X.outer:=by
 have all:∀(l:List Env),(∀b∈frs l,b∈X.fs)→X.s₀.heap.FunFrames X.base l→s.heap.FunFrames X.base l:=by
  intro l
  induction l with
  |nil=>intro _ _;trivial
  |cons env r ih=>
   intro hs hl
   obtain⟨hk,⟨L,o,hf,hn,ho,hd⟩,hr⟩:=hl
   have hL:L∈X.fs:=hs L (by unfold frs;rw [List.filterMap_cons,hf];exact List.mem_cons_self)
   obtain⟨sl,e⟩:=I.base.slot L o ho (I.ok.frf L hL) hL fun z=>I.ok.exfs L z hL
   exact⟨hk,⟨L,_,hf,hn,e,hd⟩,ih (fun b hb=>hs b (by unfold frs;rw [List.filterMap_cons,hf];exact List.mem_cons_of_mem _ hb)) hr⟩
 exact all X.outer (fun _ hb=>hb) I.ok.funs
theorem Inv.stack(I:Inv X zd σ H s):s.heap.FunFrames X.base X.stack:=by
 rcases I.ok.stk with e|⟨e,hf⟩
 ·rw [e];exact I.funs
 ·rw [e]
  obtain⟨m,hn,_⟩:=I.loc
  refine .cons (by rw [I.ok.kind];decide) hf hn ?_ I.funs
  exact Heap.get?_none_of_le (Nat.le_trans I.ok.bsz I.ok.above)
theorem Inv.stkSub(I:Inv X zd σ H s):∀b∈frs X.stack,b∈X.env.locals::X.fs:=fun b hb=>by
 rcases I.ok.stk with e|⟨e,hf⟩
 ·rw [e] at hb;exact List.mem_cons_of_mem _ hb
 ·rw [e] at hb
  unfold frs at hb
  rw [List.filterMap_cons,hf] at hb
  exact hb
theorem Inv.stkFree(I:Inv X zd σ H s):∀b∈frs X.stack,H b=none:=fun b hb=>by
 rcases List.mem_cons.mp (I.stkSub b hb) with e|hb
 ·rw [e];exact I.free
 ·obtain⟨_,o,ho,_⟩:=I.ok.funs.mem hb
  exact I.base.free b o ho (I.ok.frf b hb) fun z=>I.ok.exfs b z hb
theorem Inv.step{g':Array GenState}{t':Nat}{d':Drawn}{ch:List Addr}(I:Inv X zd σ H s)
  (hch:∀b∈ch,(b∈X.ex∨X.s₀.heap.objs.size≤b)∧b≠X.env.locals∧(∀x c,X.env.cells.lookup x=some c→c≠b)∧∀p∈X.pn ++ zd,p.1≠b)
  (keep:∀b o,b≠X.env.locals→b∉X.fs→b∉ch→s.heap.get? b=some o→H b=none→h'.get? b=some o)
  (slot:∀b o,b≠X.env.locals→b∈X.fs→b∉ch→s.heap.get? b=some o→H b=none→∃sl,h'.get? b=some {o with slots:=sl}) (free:∀b o,b∉ch→s.heap.get? b=some o→H b=none→H' b=none)
  (there:∀b o,b∉ch→s.heap.get? b=some o→∃o',h'.get? b=some o')
  (tups:∀b xs,H b=some (.tup xs)→H' b=some (.tup xs)) (frzs:∀b o u,H b=some (.frz o u)→H' b=some (.frz o u)) (tbls:∀b ps,H b=some (.tbl ps)→∃more,H' b=some (.tbl (ps ++ more)))
  (ns:∀m,s.heap.Ns X.env.locals m→h'.Ns X.env.locals m) (hok:HOk X.prog X.w H' h') (hg:AllBare g'):
  Inv X zd σ H' {s with heap:=h',gens:=g',drawn:=d',toks:=t'}:=by
 have neL:∀b o,X.s₀.heap.get? b=some o→b≠X.env.locals:=fun b o e=>Nat.ne_of_lt (Nat.lt_of_lt_of_le (Heap.lt_size e) I.ok.above)
 have neC:∀b o,X.s₀.heap.get? b=some o→b∉X.ex→b∉ch:=fun b o e hx hb=>by
  rcases(hch b hb).1 with z|z
  ·exact hx z
  ·exact absurd (Nat.lt_of_lt_of_le (Heap.lt_size e) z) (Nat.lt_irrefl _)
 have cellK:∀x c,X.env.cells.lookup x=some c→∀v,s.heap.IsCell c v→h'.IsCell c v:=fun x c e v ⟨o,ho,hd⟩=>by
  have nch:c∉ch:=fun z=>(hch c z).2.2.1 x c e rfl
  by_cases hc:c∈X.fs
  ·obtain⟨sl,q⟩:=slot c o (I.cne x c e) hc nch ho (I.freeC x c e)
   exact⟨_,q,hd⟩
  ·exact⟨o,keep c o (I.cne x c e) hc nch ho (I.freeC x c e),hd⟩
 refine⟨I.ok,I.os,hg,⟨fun b o e n hb hx=> ?_,fun b o e n hb hx=> ?_,fun b o e n hx=> ?_,fun b o e hx=> ?_,fun b xs e=>tups b xs (I.base.tups b xs e),fun b o xs e=>frzs b o xs (I.base.frzs b o xs e),fun b ps e=> ?_⟩, ?_,fun x c e=> ?_, ?_,fun x c e=> ?_,fun p hp=> ?_,hok,I.len⟩
 ·exact keep b o (neL b o e) hb (neC b o e hx) (I.base.keep b o e n hb hx) (I.base.free b o e n hx)
 ·obtain⟨sl,e1⟩:=I.base.slot b o e n hb hx
  obtain⟨sl',e2⟩:=slot b _ (neL b o e) hb (neC b o e hx) e1 (I.base.free b o e n hx)
  exact⟨sl',e2⟩
 ·obtain⟨o',e1⟩:=I.base.there b o e hx
  exact free b o' (neC b o e hx) e1 (I.base.free b o e n hx)
 ·obtain⟨o',e1⟩:=I.base.there b o e hx
  exact there b o' (neC b o e hx) e1
 ·obtain⟨m1,e1⟩:=I.base.tbls b ps e
  obtain⟨m2,e2⟩:=tbls b _ e1
  exact⟨m1 ++ m2,by rw [e2,Array.append_assoc]⟩
 ·obtain⟨m,hn,hl⟩:=I.loc
  refine⟨m,ns m hn,fun i x v e1 e2 e3=> ?_⟩
  obtain⟨u,r,l⟩:=hl i x v e1 e2 e3
  refine⟨u,r, ?_⟩
  rcases l with l|⟨k,c,e,z⟩
  ·exact .inl l
  ·exact .inr ⟨k,c,e,cellK x c e _ z⟩
 ·obtain⟨v,z⟩:=I.cell x c e
  exact⟨v,cellK x c e v z⟩
 ·obtain⟨m,⟨o,_,_,ho,_⟩,_⟩:=I.loc
  exact free _ o (fun z=>(hch _ z).2.1 rfl) ho I.free
 ·obtain⟨v,o,ho,hd⟩:=I.cell x c e
  exact free c o (fun z=>(hch c z).2.2.1 x c e rfl) ho (I.freeC x c e)
 ·obtain⟨e,n,ne,nf,d⟩:=I.pin p hp
  have nch:p.1∉ch:=fun z=>(hch p.1 z).2.2.2 p hp rfl
  exact⟨keep p.1 p.2 ne nf nch e n,free p.1 p.2 nch e n,ne,nf,d⟩
theorem Inv.un{t':Nat}(I:Inv X zd σ H s)(u:Un X.fs [] H H' s.heap h')(hok:HOk X.prog X.w H' h'):Inv X zd σ H' {s with heap:=h',toks:=t'}:=by
 obtain⟨m,⟨o,es,ep,ho,r⟩,_⟩:=id I.loc
 obtain⟨sl,hL⟩:=u.any ho I.free (by simp)
 exact I.step (g':=s.gens) (d':=s.drawn) (ch:= []) (fun _ z=>nomatch z) (fun b o _ hb _ e n=>u.keep b o e n hb (by simp)) (fun b o _ hb _ e n=>u.slot b o e n hb (by simp)) (fun b o _ e n=>u.free b o e n (by simp)) (fun b o _ e=>u.there b o e (by simp)) u.tups u.frzs u.tbls (fun m' hm=>by
  obtain⟨o',es',ep',ho',r'⟩:=hm
  rw [ho] at ho';cases ho'
  exact⟨_,es',ep',hL,r'⟩) hok I.bare
theorem Inv.call{g':Array GenState}{t':Nat}{d':Drawn}{ch:List Addr}(I:Inv X zd σ H s)(u:Un (frs X.stack) ch H H' s.heap h')(hok:HOk X.prog X.w H' h')(hg:AllBare g')
  (hch:∀b∈ch,(b∈X.ex∨X.s₀.heap.objs.size≤b)∧b≠X.env.locals∧(∀x c,X.env.cells.lookup x=some c→c≠b)∧∀p∈X.pn ++ zd,p.1≠b):
  Inv X zd σ H' {s with heap:=h',gens:=g',drawn:=d',toks:=t'}:=by
 obtain⟨m,⟨o,es,ep,ho,r⟩,_⟩:=id I.loc
 obtain⟨sl,hL⟩:=u.any ho I.free fun z=>(hch _ z).2.1 rfl
 exact I.step (ch:=ch) hch (fun b o hL hb hc e n=>u.keep b o e n (fun z=>(List.mem_cons.mp (I.stkSub b z)).elim hL hb) hc) (fun b o _ _ hc e n=>u.any e n hc) (fun b o hc e n=>u.free b o e n hc) (fun b o hc e=>u.there b o e hc) u.tups u.frzs u.tbls (fun m' hm=>by
  obtain⟨o',es',ep',ho',r'⟩:=hm
  rw [ho] at ho';cases ho'
  exact⟨_,es',ep',hL,r'⟩) hok hg
theorem Inv.turned{t':Nat}{it:Addr}(I:Inv X zd σ H s)(k:∀b o,b≠it→s.heap.get? b=some o→h'.get? b=some o)(hn:H it=none)(hL:it≠X.env.locals)
  (h1:it∈X.ex∨X.s₀.heap.objs.size≤it) (h2:∀x c,X.env.cells.lookup x=some c→c≠it) (h3:∀p∈X.pn ++ zd,p.1≠it):Inv X zd σ H {s with heap:=h',toks:=t'}:=by
 have nit:∀b u,H b=some u→b≠it:=fun b u e z=>by rw [z,hn] at e;cases e
 refine I.step (g':=s.gens) (d':=s.drawn) (ch:= [it]) (fun b hb=> ?_) (fun b o _ _ hc e _=>k b o (fun z=>hc (by simp [z])) e) (fun b o _ _ hc e _=>⟨o.slots,k b o (fun z=>hc (by simp [z])) e⟩) (fun _ _ _ _ n=>n)
  (fun b o hc e=>⟨o,k b o (fun z=>hc (by simp [z])) e⟩) (fun _ _ e=>e) (fun _ _ _ e=>e) (fun b ps e=>⟨#[],by rw [e];simp⟩) (fun m hm=> ?_) (fun b u e=> ?_) I.bare
 ·have e:b=it:=by simpa using hb
  subst e
  exact⟨h1,hL,h2,h3⟩
 ·obtain⟨o,es,ep,ho,r⟩:=hm
  exact⟨o,es,ep,k _ o (Ne.symm hL) ho,r⟩
 ·refine(I.hok b u e).stay (fun c v hc q=>k c v ?_ q) (fun _ q=>q) fun _ _ q=>q
  rcases hc with z|z
  ·rw [z];exact nit b u e
  ·exact nit c _ z
theorem Inv.tok(I:Inv X zd σ H s)(t:Nat):Inv X zd σ H {s with toks:=t}:=I.un (h':=s.heap) (t':=t) Un.refl I.hok
theorem Inv.kept{t':Nat}(I:Inv X zd σ H s)(k:∀b u,s.heap.get? b=some u→h'.get? b=some u):Inv X zd σ H {s with heap:=h',toks:=t'}:=I.un (Un.kept k) (I.hok.kept k)
theorem Inv.laid{a:Addr}{o:HO}{t':Nat}(I:Inv X zd σ H s)(k:∀b u,s.heap.get? b=some u→h'.get? b=some u)(hp:s.heap.objs.size≤a)(new:ObjOk X.prog X.w (upd H a o) h' a o):
  Inv X zd σ (upd H a o) {s with heap:=h',toks:=t'}:=I.un (Un.laid k hp (I.hok.fresh hp)) (I.hok.laid k hp new)
theorem Inv.write{x e:Addr}{o:HO}{t':Nat}(I:Inv X zd σ H s)(mu:Mut (H x))(he:e=x∨H e=some (.own x))(k:∀b u,b≠e→s.heap.get? b=some u→h'.get? b=some u)(heo:∃u,h'.get? e=some u)
  (new:ObjOk X.prog X.w (upd H x o) h' x o):Inv X zd σ (upd H x o) {s with heap:=h',toks:=t'}:=I.un (Un.write mu he k heo) (I.hok.write mu he k heo new)
theorem Inv.weak{σ':List (Option V)}(I:Inv X zd σ H s)(hl:σ'.length=σ.length)(w:∀(i:Nat) v,σ'[i]? =some (some v)→σ[i]? =some (some v)):Inv X zd σ' H s:=
 ⟨I.ok,I.os,I.bare,I.base,let⟨m,hn,hl'⟩:=I.loc;⟨m,hn,fun i x v e1 e2 e3=>hl' i x v e1 (w i v e2) e3⟩,I.cell,I.free,I.freeC,I.pin,I.hok,hl.trans I.len⟩
theorem Inv.pins_of{ai:List (Addr×Obj)}(I:Inv X zd σ H s)(h:∀p∈ai,s.heap.get? p.1=some p.2∧H p.1=none∧p.1≠X.env.locals∧p.1∉X.fs∧∀v,p.2.data≠ .cell v):Inv X ai σ H s:=
 ⟨I.ok,I.os,I.bare,I.base,I.loc,I.cell,I.free,I.freeC,fun p hp=>(List.mem_append.mp hp).elim (fun z=>I.pin p (List.mem_append_left _ z)) (h p),I.hok,I.len⟩
theorem ak_8{N:List Str}(hN:N.Nodup){i j:Nat}{x:Str}(a:N[i]? =some x)(b:N[j]? =some x):i=j:=by
 obtain⟨h1,e1⟩:=List.getElem?_eq_some_iff.mp a
 obtain⟨h2,e2⟩:=List.getElem?_eq_some_iff.mp b
 exact(List.getElem_inj hN).mp (e1.trans e2.symm)
theorem ar_5{M:Model}{A:Around}{E:Value→Shared→Prop}{i:Nat}{x:Str}{v:V}{u:Value}{Q:Unit→Shared→Prop}(I:Inv X zd σ H s)(hN:X.N.Nodup)(hi:X.N[i]? =some x)(hx:Loc X.env.scope x)(r:RelV v u)
  (h:∀s',Inv X zd (σ.set i (some v)) H s'→(∃a,Heap.SameBut a s.heap s'.heap∧(a=X.env.locals∨X.env.cells.lookup x=some a))→Q () s') (hf:X.fn x=true∨X.env.scope.names.lookup x=some .local:=by first|exact .inl rfl|exact .inr rfl|assumption):wpAny M A (storeName X.env x u) Q E s:=by
 obtain⟨m,hn,hl⟩:=id I.loc
 have cj:(X.env.scope.kind == .class || (X.env.scope.kind == .module && X.env.locals != X.env.globals))=false:=by rw [I.ok.kind];rfl
 have hiσ:i < σ.length:=by rw [I.len];exact(List.getElem?_eq_some_iff.mp hi).1
 have cne:=I.cne
 have tracked:∀{a:Addr} {h':Heap},(∃o,s.heap.get? a=some o∧H a=none)→Heap.SameBut a s.heap h'→HOk X.prog X.w H h':=fun{a h'} ha hs b ob e=>by
  obtain⟨_,_,ao⟩:=ha
  refine(I.hok b ob e).stay (fun c w' hc q=>(hs.2 c ?_).trans q) (fun _ q=>q) fun _ _ q=>q
  rintro rfl
  rcases hc with rfl|hc
  ·rw [ao] at e;cases e
  ·rw [ao] at hc;cases hc
 rcases hx with hk|hk
 ·refine wpAny_storeName_local hk hn (fun h' hn' hs=> ?_) cj
  obtain⟨oL,_,_,hoL,_⟩:=id hn
  refine h _ ⟨I.ok,I.os,I.bare,⟨fun b o e n hb hx=> ?_,fun b o e n hb hx=> ?_,I.base.free,fun b o e hx=> ?_,I.base.tups,I.base.frzs,I.base.tbls⟩,⟨_,hn',fun j y v' e1 e2 e3=> ?_⟩,fun y c e=> ?_,I.free,I.freeC,fun p hp=> ?_,tracked ⟨oL,hoL,I.free⟩ hs,by simpa using I.len⟩ ⟨_,hs, .inl rfl⟩
  ·exact(hs.2 b (Nat.ne_of_lt (Nat.lt_of_lt_of_le (Heap.lt_size e) I.ok.above))).trans (I.base.keep b o e n hb hx)
  ·obtain⟨sl,e1⟩:=I.base.slot b o e n hb hx
   exact⟨sl,(hs.2 b (Nat.ne_of_lt (Nat.lt_of_lt_of_le (Heap.lt_size e) I.ok.above))).trans e1⟩
  ·obtain⟨o',e1⟩:=I.base.there b o e hx
   exact⟨o',(hs.2 b (Nat.ne_of_lt (Nat.lt_of_lt_of_le (Heap.lt_size e) I.ok.above))).trans e1⟩
  ·by_cases hj:j=i
   ·subst hj
    rw [hi] at e1;cases e1
    rw [List.getElem?_set_self hiσ] at e2
    cases e2
    exact⟨u,r, .inl ⟨hk,by simp⟩⟩
   ·rw [List.getElem?_set_ne (Ne.symm hj)] at e2
    obtain⟨u',r',q⟩:=hl j y v' e1 e2 e3
    refine⟨u',r', ?_⟩
    rcases q with⟨k,e⟩|⟨k,c,e,z⟩
    ·refine .inl ⟨k, ?_⟩
     have:y≠x:=fun e=>hj (ak_8 hN e1 (e▸hi))
     simp [this,e]
    ·exact .inr ⟨k,c,e,z.sameBut hs (cne y c e)⟩
  ·obtain⟨w',z⟩:=I.cell y c e
   exact⟨w',z.sameBut hs (cne y c e)⟩
  ·obtain⟨e,n,ne,nf,d⟩:=I.pin p hp
   exact⟨(hs.2 p.1 ne).trans e,n,ne,nf,d⟩
 ·have hfn:X.fn x=true:=by
   rcases hf with z|z
   ·exact z
   ·rw [z] at hk;cases hk
  obtain⟨c,hc⟩:=I.ok.has x (.inl hk)
  obtain⟨w',z⟩:=I.cell x c hc
  refine wpAny_storeName_cell I.ok.kind hk hc z (fun h' hc' hs=> ?_)
  obtain⟨oc,hoc,dn⟩:=id z
  refine h {s with heap:=h'} ⟨I.ok,I.os,I.bare,⟨fun b o e n hb hx=> ?_,fun b o e n hb hx=> ?_,I.base.free,fun b o e hx=> ?_,I.base.tups,I.base.frzs,I.base.tbls⟩,⟨m,hn.sameBut hs (Ne.symm (cne x c hc)),fun j y v' e1 e2 e3=> ?_⟩,fun y c' e=> ?_,I.free,I.freeC,fun p hp=> ?_,tracked ⟨oc,hoc,I.freeC x c hc⟩ hs,by simpa using I.len⟩ ⟨c,hs, .inr hc⟩
  ·exact(hs.2 b (Nat.ne_of_lt (Nat.lt_of_lt_of_le (Heap.lt_size e) (I.ok.cab x c hfn hc)))).trans (I.base.keep b o e n hb hx)
  ·obtain⟨sl,e1⟩:=I.base.slot b o e n hb hx
   exact⟨sl,(hs.2 b (Nat.ne_of_lt (Nat.lt_of_lt_of_le (Heap.lt_size e) (I.ok.cab x c hfn hc)))).trans e1⟩
  ·obtain⟨o',e1⟩:=I.base.there b o e hx
   exact⟨o',(hs.2 b (Nat.ne_of_lt (Nat.lt_of_lt_of_le (Heap.lt_size e) (I.ok.cab x c hfn hc)))).trans e1⟩
  ·by_cases hj:j=i
   ·subst hj
    rw [hi] at e1;cases e1
    rw [List.getElem?_set_self hiσ] at e2
    cases e2
    exact⟨u,r, .inr ⟨.inl hk,c,hc,hc'⟩⟩
   ·rw [List.getElem?_set_ne (Ne.symm hj)] at e2
    obtain⟨u',r',q⟩:=hl j y v' e1 e2 e3
    refine⟨u',r', ?_⟩
    rcases q with q|⟨k,c',e,z'⟩
    ·exact .inl q
    ·refine .inr ⟨k,c',e,z'.sameBut hs ?_⟩
     rintro rfl
     exact hj (ak_8 hN e1 (I.ok.inj _ _ _ e hc▸hi))
  ·by_cases hcc:c'=c
   ·subst hcc;exact⟨_,hc'⟩
   ·obtain⟨w2,z2⟩:=I.cell y c' e
    exact⟨w2,z2.sameBut hs hcc⟩
  ·obtain⟨e,n,ne,nf,d⟩:=I.pin p hp
   refine⟨(hs.2 p.1 ?_).trans e,n,ne,nf,d⟩
   intro q
   rw [q,hoc] at e
   have q':oc=p.2:=Option.some.inj e
   exact d w' (by rw [←q'];exact dn)
theorem ak_9{M:Model}{A:Around}{E:Value→Shared→Prop}{i:Nat}{x:Str}{v:V}{u:Value}{Q:Unit→Shared→Prop}(I:Inv X zd σ H s)(hN:X.N.Nodup)(hi:X.N[i]? =some x)(hx:Loc X.env.scope x)(r:RelV v u)
  (h:∀s',Inv X zd (σ.set i (some v)) H s'→Q () s') (hf:X.fn x=true∨X.env.scope.names.lookup x=some .local:=by first|exact .inl rfl|exact .inr rfl|assumption):wpAny M A (storeName X.env x u) Q E s:=
 ar_5 I hN hi hx r (fun s' I' _=>h s' I') hf
theorem Inv.call'{s':Shared}{ch:List Addr}(I:Inv X zd σ H s)(ho:s'.os=s.os)(u:Un (frs X.stack) ch H H' s.heap s'.heap)(hok:HOk X.prog X.w H' s'.heap)(hg:AllBare s'.gens)
  (hch:∀b∈ch,(b∈X.ex∨X.s₀.heap.objs.size≤b)∧b≠X.env.locals∧(∀x c,X.env.cells.lookup x=some c→c≠b)∧∀p∈X.pn ++ zd,p.1≠b):Inv X zd σ H' s':=by
 obtain⟨h',g',d',t',o'⟩:=s'
 have e:o'=s.os:=ho
 subst e
 exact I.call (g':=g') (t':=t') (d':=d') u hok hg hch
end
abbrev XK:=Value→Option Addr→Hp→Prop
abbrev St:=List (Option V)
abbrev VK:=V→Hp→Prop
abbrev TE:=St→Hp→VK→Prop
abbrev TT:=St→Hp→(Bool→Hp→Prop)→Prop
abbrev TA:=St→Hp→(List V→Hp→Prop)→Prop
structure Ends where
 nx:St→Hp→Prop
 rt:VK
 bk:St→Hp→Prop:=fun _ _=>False
 ct:St→Hp→Prop:=fun _ _=>False
abbrev TS:=Ends→St→Hp→Prop
def EP(X:Cx)(zd:List (Addr×Obj))(σ:St)(Q:VK)(u:Value)(s':Shared):Prop:=∃v H',Inv X zd σ H' s'∧RelV v u∧Q v H'
def TP(X:Cx)(zd:List (Addr×Obj))(σ:St)(Q:Bool→Hp→Prop)(b:Bool)(s':Shared):Prop:=∃H',Inv X zd σ H' s'∧Q b H'
def AP(X:Cx)(zd:List (Addr×Obj))(σ:St)(Q:List V→Hp→Prop)(us:List Value)(s':Shared):Prop:=∃vs H',Inv X zd σ H' s'∧Vals vs us∧Q vs H'
def SP(X:Cx)(zd:List (Addr×Obj))(D:Ends)(f:Flow)(s':Shared):Prop:=
 match f with
 | .next=>∃σ' H',Inv X zd σ' H' s'∧D.nx σ' H'
 | .brk=>∃σ' H',Inv X zd σ' H' s'∧D.bk σ' H'
 | .cont=>∃σ' H',Inv X zd σ' H' s'∧D.ct σ' H'
 | .ret u=>∃v σ' H',Inv X zd σ' H' s'∧RelV v u∧D.rt v H'
def PE(X:Cx)(e:Expr)(t:TE):Prop:=
 ∀(zd:List (Addr×Obj)) (s:Shared) (σ:St) (H:Hp) (Q:VK),Inv X zd σ H s→t σ H Q→wpAny (model X.prog X.w) X.A (eval e X.env) (EP X zd σ Q) X.xe s
def PT(X:Cx)(e:Expr)(t:TT):Prop:=
 ∀(zd:List (Addr×Obj)) (s:Shared) (σ:St) (H:Hp) (Q:Bool→Hp→Prop),Inv X zd σ H s→t σ H Q→wpAny (model X.prog X.w) X.A (isTrue e X.env (eval e X.env)) (TP X zd σ Q) X.xe s
def PW(X:Cx)(e:Expr)(t:TT):Prop:=
 ∀(whole:Sem Value) (zd:List (Addr×Obj)) (s:Shared) (σ:St) (H:Hp) (Q:Bool→Hp→Prop),Inv X zd σ H s→t σ H Q→wpAny (model X.prog X.w) X.A (isTrue e X.env whole) (TP X zd σ Q) X.xe s
theorem PW.pt{X:Cx}{e:Expr}{t:TT}(h:PW X e t):PT X e t:=h _
def PA(X:Cx)(es:List Expr)(t:TA):Prop:=
 ∀(pos:Pos) (zd:List (Addr×Obj)) (s:Shared) (σ:St) (H:Hp) (Q:List V→Hp→Prop),Inv X zd σ H s→t σ H Q→wpAny (model X.prog X.w) X.A (spliced (backTo pos (starEach es X.env))) (AP X zd σ Q) X.xe s
def PS(X:Cx)(st:Stmt)(t:TS):Prop:=
 ∀(zd:List (Addr×Obj)) (s:Shared) (σ:St) (H:Hp) (D:Ends),Inv X zd σ H s→t D σ H→wpAny (model X.prog X.w) X.A (exec st X.env) (SP X zd D) X.xe s
def PSs(X:Cx)(st:List Stmt)(t:TS):Prop:=
 ∀(zd:List (Addr×Obj)) (s:Shared) (σ:St) (H:Hp) (D:Ends),Inv X zd σ H s→t D σ H→wpAny (model X.prog X.w) X.A (execs st X.env) (SP X zd D) X.xe s
theorem thn{α:Type}{t:Sem α}{Q Q':α→Shared→Prop}{M:Model}{A:Around}{E:Value→Shared→Prop}{s:Shared}(h:wpAny M A t Q E s)(hQ:∀a s,Q a s→Q' a s):wpAny M A t Q' E s:=wpAny_mono h hQ fun _ _ x=>x
section
variable{X:Cx}
def tVar(i:Nat):TE:=fun σ H Q=>∃v,σ[i]? =some (some v)∧Q v H
def tC(v:V):TE:=fun _ H Q=>Q v H
theorem m_9{i:Nat}{x:Str}{pos:Pos}(hN:X.N[i]? =some x)(hv:Vis X.env.scope x)(hd:(x ==("__debug__" :Str))=false:=by decide)(hcd:(x ==("__classdict__" :Str))=false:=by decide):PE X (.Name x pos) (tVar i):=by
 intro zd s σ H Q I h
 obtain⟨v,e,h⟩:=h
 obtain⟨m,hn,hl⟩:=I.loc
 obtain⟨u,r,l⟩:=hl i x v hN e hv
 have fin:EP X zd σ Q u s:=⟨v,H,I,r,h⟩
 rcases l with⟨hk,hm⟩|⟨hk,c,hc,hcell⟩
 ·exact wpAny_Name (wpAny_loadName_local I.ok.kind hk hn hm fin) hd
 ·rcases hk with hk|hk
  ·exact wpAny_Name (wpAny_loadName_cell I.ok.kind hk hc hcell fin) hd
  ·exact wpAny_Name (wpAny_loadName_free I.ok.kind hk hc hcell fin hcd) hd
theorem cn_8{i j pos}:PE X (.Constant (.int i) j pos) (tC (.int i)):=fun _ _ _ H _ I h=>wpAny_Constant_int ⟨.int i,H,I.tok _,⟨_,rfl⟩,h⟩
theorem cu_1{b j pos}:PE X (.Constant (.bool b) j pos) (tC (.bl b)):=fun _ _ _ H _ I h=>Constant_bool ⟨.bl b,H,I,rfl,h⟩
theorem cn_9{j pos}:PE X (.Constant .none j pos) (tC .non):=fun _ _ _ H _ I h=>Constant_none ⟨.non,H,I,rfl,h⟩
theorem co_0{x j pos}:PE X (.Constant (.str x) j pos) (tC (.str x)):=fun _ _ _ H _ I h=>Calls.Constant_str ⟨.str x,H,I.tok _,⟨_,rfl⟩,h⟩
def Gl(X:Cx)(x:Str):Prop:=X.env.kindOf x=some .globalImplicit
theorem q_3{E:Value→Shared→Prop}{zd:List (Addr×Obj)}{s:Shared}{σ:St}{H:Hp}{x:Str}{u:Value}{pos:Pos}{Q:Value→Shared→Prop}(I:Inv X zd σ H s)(hg:Gl X x)(hm:X.mg x=some u)(h:Q u s)
  (hd:(x ==("__debug__" :Str))=false:=by decide):wpAny (model X.prog X.w) X.A (eval (.Name x pos) X.env) Q E s:=
 Calls.Name_function_global I.ok.kind hg (Calls.loadGlobal_global (by rw [I.ok.glob];exact I.mod.glob.keeps I.bk) hm h) hd
theorem p_6{E:Value→Shared→Prop}{zd:List (Addr×Obj)}{s:Shared}{σ:St}{H:Hp}{x:Str}{u:Value}{pos:Pos}{Q:Value→Shared→Prop}(I:Inv X zd σ H s)(hg:Gl X x)(hm:X.mg x=none)(hv:bootBuiltins x=some u)(h:Q u s)
  (hn:x≠ "__name__" :=by decide) (hd:(x ==("__debug__" :Str))=false:=by decide):wpAny (model X.prog X.w) X.A (eval (.Name x pos) X.env) Q E s:=by
 obtain⟨mb,h1,h2⟩:=I.mod.blt
 exact Calls.Name_function_global I.ok.kind hg (Calls.loadGlobal_builtin (by rw [I.ok.glob];exact I.mod.glob.keeps I.bk) hm (by rw [I.ok.blt];exact h1.keeps I.bk) ((h2 x hn).trans hv) h) hd
theorem bm_1{x:Str}{v:V}{u:Value}{pos:Pos}(hg:Gl X x)(hm:X.mg x=some u)(r:RelV v u)(hd:(x ==("__debug__" :Str))=false:=by decide):PE X (.Name x pos) (tC v):=
 fun _ _ _ H _ I h=>q_3 I hg hm ⟨v,H,I,r,h⟩ hd
theorem ce_5{x:Str}{v:V}{u:Value}{pos:Pos}(hg:Gl X x)(hm:X.mg x=none)(hv:bootBuiltins x=some u)(r:RelV v u)(hn:x≠ "__name__" :=by decide)(hd:(x ==("__debug__" :Str))=false:=by decide):PE X (.Name x pos) (tC v):=
 fun _ _ _ H _ I h=>p_6 I hg hm hv ⟨v,H,I,r,h⟩ hn hd
variable{a b:Expr}{ta tb:TE}{pos:Pos}
variable{tA tB':TT}{v_2:List Expr}
def tAnd(t u:TT):TT:=fun σ H Q=>t σ H fun c H1=>if c=true then u σ H1 Q else Q false H1
def tOr(t u:TT):TT:=fun σ H Q=>t σ H fun c H1=>if c=true then Q true H1 else u σ H1 Q
def tNot(t:TT):TT:=fun σ H Q=>t σ H fun c H1=>Q (!c) H1
theorem ce_6(ha:PT X a tA):PW X (.BoolOp .And [a] pos) tA:=by
 intro wh zd s σ H Q I h
 refine isTrue_and (thn (ha zd s σ H Q I h) fun c s1 e=> ?_)
 cases c with
 |true=>exact isTrue_and_nil e
 |false=>exact e
theorem co_1(ha:PT X a tA):PW X (.BoolOp .Or [a] pos) tA:=by
 intro wh zd s σ H Q I h
 refine isTrue_or (thn (ha zd s σ H Q I h) fun c s1 e=> ?_)
 cases c with
 |false=>exact isTrue_or_nil e
 |true=>exact e
theorem co_2(ha:PT X a tA)(hb:PW X (.BoolOp .And (b::v_2) pos) tB'):PW X (.BoolOp .And (a::b::v_2) pos) (tAnd tA tB'):=by
 intro wh zd s σ H Q I h
 refine isTrue_and (thn (ha zd s σ H _ I h) fun c s1 ⟨H1,I1,q1⟩=> ?_)
 cases c with
 |true=>exact hb wh zd s1 σ H1 Q I1 q1
 |false=>exact⟨H1,I1,q1⟩
theorem cu_2(ha:PT X a tA)(hb:PW X (.BoolOp .Or (b::v_2) pos) tB'):PW X (.BoolOp .Or (a::b::v_2) pos) (tOr tA tB'):=by
 intro wh zd s σ H Q I h
 refine isTrue_or (thn (ha zd s σ H _ I h) fun c s1 ⟨H1,I1,q1⟩=> ?_)
 cases c with
 |true=>exact⟨H1,I1,q1⟩
 |false=>exact hb wh zd s1 σ H1 Q I1 q1
theorem co_3(ha:PT X a tA):PT X (.UnaryOp .Not a pos) (tNot tA):=by
 intro zd s σ H Q I h
 exact isTrue_not (ha zd s σ H (fun c H1=>Q (!c) H1) I h)
def cu_3(ta tb:TE):TE:=fun σ H Q=>ta σ H fun x H1=>∃c,x= .bl c∧if c=true then tb σ H1 Q else Q (.bl false) H1
def cu_4(ta:TE):TE:=fun σ H Q=>ta σ H fun x H1=>∃c,x= .bl c∧Q (.bl (!c)) H1
theorem co_4{op}{t:TE}(h:PE X a t):PE X (.BoolOp op [a] pos) t:=fun zd s σ H Q I hw=>BoolOp_one (h zd s σ H Q I hw)
theorem co_5(ha:PE X a ta)(hb:PE X (.BoolOp .And (b::v_2) pos) tb):PE X (.BoolOp .And (a::b::v_2) pos) (cu_3 ta tb):=by
 intro zd s σ H Q I h
 refine BoolOp_and (thn (ha zd s σ H _ I h) fun v s1 ⟨x,H1,I1,r1,q1⟩=> ?_)
 obtain⟨c,rfl,q1⟩:=q1
 cases r1
 refine wpAny_truthy_bool ?_
 cases c with
 |true=>exact hb zd s1 σ H1 Q I1 q1
 |false=>exact⟨.bl false,H1,I1,rfl,q1⟩
theorem co_6(ha:PE X a ta):PE X (.UnaryOp .Not a pos) (cu_4 ta):=by
 intro zd s σ H Q I h
 refine UnaryOp_ (thn (ha zd s σ H _ I h) fun v s1 ⟨x,H1,I1,r1,q1⟩=> ?_)
 obtain⟨c,rfl,q1⟩:=q1
 cases r1
 exact not_of (wpAny_truthy_bool ⟨.bl (!c),H1,I1,rfl,q1⟩)
end
def SqL(K:Frag)(H:Hp)(a:Addr)(xs:List V):Prop:=
 Rd H a (.lst xs)∨
  ∃(o:Obj) (its:Array Value) (n:Nat),K.lookup a=some o∧o.cls= .type "list" ∧o.dict=none∧o.data= .seq its n∧its.size≤sizeLine∧Vals xs its.toList
def SqT(K:Frag)(H:Hp)(a:Addr)(xs:List V):Prop:=
 Rd H a (.tup xs)∨
  ∃(o:Obj) (its:Array Value) (n:Nat),K.lookup a=some o∧o.cls= .type "tuple" ∧o.data= .seq its n∧its.size≤sizeLine∧Vals xs its.toList
def absV:Value→Option V
 | .none=>some .non
 | .bool b=>some (.bl b)
 | .int i _=>some (.int i)
 | .str x _=>some (.str x)
 | .bytes b _=>some (.byt b)
 | .float b _=>some (.flt b)
 | .ref a=>some (.ref a)
 | .type n=>some (.ty n)
 |_=>none
theorem RelV.abs{x:V}{u:Value}(r:RelV x u):absV u=some x:=by
 cases x with
 |non=>cases r;rfl
 |bl _=>cases r;rfl
 |int _=>obtain⟨t,rfl⟩:=r;rfl
 |str _=>obtain⟨t,rfl⟩:=r;rfl
 |byt _=>obtain⟨t,rfl⟩:=r;rfl
 |flt _=>obtain⟨t,rfl⟩:=r;rfl
 |ref _=>cases r;rfl
 |ty _=>cases r;rfl
theorem RelV.inj{x y:V}{u:Value}(r:RelV x u)(q:RelV y u):x=y:=Option.some.inj (r.abs.symm.trans q.abs)
theorem Vals.inj:∀{xs ys:List V} {us:List Value},Vals xs us→Vals ys us→xs=ys
 |_,_,_, .nil, .nil=>rfl
 |_,_,_, .cons r t, .cons r' t'=>by rw [r.inj r',Vals.inj t t']
section
variable{X:Cx}{zd:List (Addr×Obj)}{σ:St}{H:Hp}{s:Shared}{a:Addr}{xs ys:List V}
theorem SqL.of{K:Frag}(h:H a=some (.lst xs)):SqL K H a xs:= .inl (.inl h)
theorem SqT.of{K:Frag}(h:H a=some (.tup xs)):SqT K H a xs:= .inl (.inl h)
theorem Inv.list(I:Inv X zd σ H s)(h:SqL X.K H a xs):∃its:List Value,Vals xs its∧PlainL s.heap a its.toArray∧xs.length≤sizeLine:=by
 rcases h with h|⟨o,its,n,hk,hc,hd,hs,hz,r⟩
 ·obtain⟨z,its,n,r,e⟩:=h.ok I.hok
  exact⟨its,r,⟨_,n,e,rfl,rfl,rfl⟩,z⟩
 ·refine⟨its.toList,r,⟨o,n,I.kIn a o hk,hc,hd,by simpa using hs⟩, ?_⟩
  have e:=r.length
  simp only [Array.length_toList] at e
  omega
theorem Inv.tuple(I:Inv X zd σ H s)(h:SqT X.K H a xs):∃its:List Value,Vals xs its∧IsTup s.heap a its.toArray∧xs.length≤sizeLine:=by
 rcases h with h|⟨o,its,n,hk,hc,hs,hz,r⟩
 ·obtain⟨z,its,r,p⟩:=h.ok I.hok
  exact⟨its,r,p,z⟩
 ·refine⟨its.toList,r,⟨o,I.kIn a o hk,hc,n,by simpa using hs⟩, ?_⟩
  have e:=r.length
  simp only [Array.length_toList] at e
  omega
theorem Inv.list_inj(I:Inv X zd σ H s)(h:SqL X.K H a xs)(h':SqL X.K H a ys):xs=ys:=by
 obtain⟨its,r,⟨o,n,e,_,_,d⟩,_⟩:=I.list h
 obtain⟨its',r',⟨o',n',e',_,_,d'⟩,_⟩:=I.list h'
 rw [e] at e';cases e'
 rw [d] at d'
 injection d' with d1 _
 have:its=its':=by simpa using congrArg Array.toList d1
 subst this
 exact r.inj r'
theorem Inv.tuple_inj(I:Inv X zd σ H s)(h:SqT X.K H a xs)(h':SqT X.K H a ys):xs=ys:=by
 obtain⟨its,r,⟨o,e,_,n,d⟩,_⟩:=I.tuple h
 obtain⟨its',r',⟨o',e',_,n',d'⟩,_⟩:=I.tuple h'
 rw [e] at e';cases e'
 rw [d] at d'
 injection d' with d1 _
 have:its=its':=by simpa using congrArg Array.toList d1
 subst this
 exact r.inj r'
end
abbrev Cx.wish(X:Cx)(E:Value→Shared→Prop):Cx:={X with xe:=E}
abbrev Cx.nox(X:Cx):Cx:=X.wish fun _ _=>False
theorem Cx.Ok.wish{X:Cx}(ok:X.Ok)(E:Value→Shared→Prop):(X.wish E).Ok:=
 ⟨ok.mod,ok.kind,ok.glob,ok.blt,ok.above,ok.inj,ok.has,ok.cab,ok.hd,ok.frames,ok.stk,ok.exf,ok.bs,ok.bsz,ok.noex,ok.exfs,ok.funs,ok.frf⟩
theorem Cx.Ok.unwish{X:Cx}{E:Value→Shared→Prop}(ok:(X.wish E).Ok):X.Ok:=
 ⟨ok.mod,ok.kind,ok.glob,ok.blt,ok.above,ok.inj,ok.has,ok.cab,ok.hd,ok.frames,ok.stk,ok.exf,ok.bs,ok.bsz,ok.noex,ok.exfs,ok.funs,ok.frf⟩
section
variable{X:Cx}{zd:List (Addr×Obj)}{σ:St}{H:Hp}{s:Shared}{E:Value→Shared→Prop}
theorem Inv.wish(I:Inv X zd σ H s)(E:Value→Shared→Prop):Inv (X.wish E) zd σ H s:=⟨I.ok.wish E,I.os,I.bare,I.base,I.loc,I.cell,I.free,I.freeC,I.pin,I.hok,I.len⟩
theorem Inv.unwish(I:Inv (X.wish E) zd σ H s):Inv X zd σ H s:=⟨I.ok.unwish,I.os,I.bare,I.base,I.loc,I.cell,I.free,I.freeC,I.pin,I.hok,I.len⟩
theorem SP.unwish{D:Ends}{f:Flow}{s':Shared}(h:SP (X.wish E) zd D f s'):SP X zd D f s':=by
 cases f with
 |next=>obtain⟨σ',H',I,q⟩:=h;exact⟨σ',H',I.unwish,q⟩
 |brk=>obtain⟨σ',H',I,q⟩:=h;exact⟨σ',H',I.unwish,q⟩
 |cont=>obtain⟨σ',H',I,q⟩:=h;exact⟨σ',H',I.unwish,q⟩
 |ret u=>obtain⟨v,σ',H',I,r,q⟩:=h;exact⟨v,σ',H',I.unwish,r,q⟩
theorem PE.nox{e:Expr}{t:TE}(h:PE X.nox e t):PE X e t:=fun zd s σ H Q I hw=>
 wpAny_mono (h zd s σ H Q (I.wish _) hw) (fun _ _ ⟨v,H',I',r,q⟩=>⟨v,H',I'.unwish,r,q⟩) fun _ _ z=>False.elim z
theorem PT.nox{e:Expr}{t:TT}(h:PT X.nox e t):PT X e t:=fun zd s σ H Q I hw=>
 wpAny_mono (h zd s σ H Q (I.wish _) hw) (fun _ _ ⟨H',I',q⟩=>⟨H',I'.unwish,q⟩) fun _ _ z=>False.elim z
theorem PSs.nox{st:List Stmt}{t:TS}(h:PSs X.nox st t):PSs X st t:=fun zd s σ H D I hw=>
 wpAny_mono (h zd s σ H D (I.wish _) hw) (fun _ _ q=>q.unwish) fun _ _ z=>False.elim z
end
section
variable{X:Cx}{st:Stmt}{v_2:List Stmt}{t u:TS}{e:Expr}{te:TE}{pos:Pos}
def cu_5:TS:=fun D σ H=>D.nx σ H
def tSeq(t u:TS):TS:=fun D σ H=>t {D with nx:=u D} σ H
theorem ce_7:PSs X [] cu_5:=fun _ _ σ H _ I h=>wpAny_execs_nil ⟨σ,H,I,h⟩
theorem bv_0(h1:PS X st t)(h2:PSs X v_2 u):PSs X (st::v_2) (tSeq t u):=by
 intro zd s σ H D I h
 refine wpAny_execs_cons (thn (h1 zd s σ H {D with nx:=u D} I h) fun f s1 q=> ?_)
 cases f with
 |next=>
  obtain⟨σ',H',I',q⟩:=q
  exact h2 zd s1 σ' H' D I' q
 |ret v=>exact q
 |brk=>exact q
 |cont=>exact q
theorem aj_1(h1:PS X st t):PSs X [st] t:=by
 intro zd s σ H D I h
 refine wpAny_execs_cons (thn (h1 zd s σ H D I h) fun f s1 q=> ?_)
 cases f with
 |next=>exact wpAny_execs_nil q
 |ret v=>exact q
 |brk=>exact q
 |cont=>exact q
theorem Inv.quiet{zd:List (Addr×Obj)}{σ:St}{H:Hp}{s:Shared}(I:Inv X zd σ H s):interactive X.env=false:=by simp [interactive,I.ok.kind]
def cu_6(te:TE):TS:=fun D σ H=>te σ H fun _ H1=>D.nx σ H1
theorem aj_2(he:PE X e te)(hs:swapsWith e none pos.line X.env=pure false:=by rfl):PS X (.Expr e pos) (cu_6 te):=by
 intro zd s σ H D I h
 exact wpAny_Expr_any (thn (he zd s σ H _ I h) fun v s1 ⟨x,H1,I1,r1,q1⟩=>⟨σ,H1,I1,q1⟩) I.quiet hs
def tRet(te:TE):TS:=fun D σ H=>te σ H D.rt
theorem bv_1(he:PE X e te):PS X (.Return (some e) pos) (tRet te):=by
 intro zd s σ H D I h
 exact wpAny_Return_some (thn (he zd s σ H _ I h) fun v s1 ⟨x,H1,I1,r1,q1⟩=>⟨x,σ,H1,I1,r1,q1⟩)
def tIfS(c:TT)(t u:TS):TS:=fun D σ H=>c σ H fun b H1=>if b=true then t D σ H1 else u D σ H1
theorem cu_7{c:Expr}{a b:List Stmt}{tc:TT}(hc:PT X c tc)(ha:PSs X a t)(hb:PSs X b u):PS X (.If c a b pos) (tIfS tc t u):=by
 intro zd s σ H D I h
 refine wpAny_If (thn (hc zd s σ H _ I h) fun d s1 ⟨H1,I1,q1⟩=> ?_)
 cases d with
 |true=>exact ha zd s1 σ H1 D I1 q1
 |false=>exact hb zd s1 σ H1 D I1 q1
end
abbrev TG:=V→St→Hp→(St→Hp→Prop)→Prop
abbrev TGs:=List V→St→Hp→(St→Hp→Prop)→Prop
def PG(X:Cx)(target:Expr)(t:TG):Prop:=
 ∀(zd:List (Addr×Obj)) (s:Shared) (σ:St) (H:Hp) (v:V) (u:Value) (Q:St→Hp→Prop),Inv X zd σ H s→RelV v u→t v σ H Q→
  wpAny (model X.prog X.w) X.A (assign target X.env u) (fun _ s'=>∃σ' H',Inv X zd σ' H' s'∧Q σ' H') X.xe s
def PGs(X:Cx)(ts:List Expr)(t:TGs):Prop:=
 ∀(zd:List (Addr×Obj)) (s:Shared) (σ:St) (H:Hp) (vs:List V) (us:List Value) (Q:St→Hp→Prop),Inv X zd σ H s→Vals vs us→t vs σ H Q→
  wpAny (model X.prog X.w) X.A (assignInOrder ((assignEach ts X.env).map (·.2)) us) (fun _ s'=>∃σ' H',Inv X zd σ' H' s'∧Q σ' H') X.xe s
section
variable{X:Cx}{pos:Pos}
def bm_2(i:Nat):TG:=fun v σ H Q=>Q (σ.set i (some v)) H
theorem x_3{i:Nat}{x:Str}(hN:X.N.Nodup)(hi:X.N[i]? =some x)(hx:Loc X.env.scope x)(hf:X.fn x=true∨X.env.scope.names.lookup x=some .local:=by first|exact .inl rfl|exact .inr rfl|assumption):PG X (.Name x pos) (bm_2 i):=by
 intro zd s σ H v u Q I r h
 exact wpAny_assign_Name (ak_9 I hN hi hx r (fun s' I'=>⟨_,H,I',h⟩) hf)
def gNil:TGs:=fun vs σ H Q=>vs= []∧Q σ H
def cu_8(t:TG)(u:TGs):TGs:=fun vs σ H Q=>∃v r,vs=v::r∧t v σ H fun σ' H'=>u r σ' H' Q
theorem bm_3:PGs X [] gNil:=by
 intro zd s σ H vs us Q I r h
 obtain⟨e,h⟩:=h
 subst e
 cases r
 exact assignInOrder_nil ⟨σ,H,I,h⟩
theorem ab_0{e:Expr}{es:List Expr}{t:TG}{u:TGs}(h1:PG X e t)(h2:PGs X es u)
  (hs:(assignEach (e::es) X.env).map (·.2)=assign e X.env::(assignEach es X.env).map (·.2):=by rfl):PGs X (e::es) (cu_8 t u):=by
 intro zd s σ H vs us Q I r h
 obtain⟨v,vr,e1,h⟩:=h
 subst e1
 cases r with
 |cons r rr=>
  rw [hs]
  refine assignInOrder_cons (thn (h1 zd s σ H _ _ _ I r h) fun _ s1 ⟨σ1,H1,I1,q1⟩=> ?_)
  exact h2 zd s1 σ1 H1 _ _ Q I1 rr q1
def gTup(K:Frag)(n:Nat)(t:TGs):TG:=fun v σ H Q=>∃a xs,v= .ref a∧SqT K H a xs∧xs.length=n∧t xs σ H Q
theorem bv_2{es:List Expr}{k:Nat}{t:TGs}{n:Nat}(hc:X.calm=true)(h:PGs X es t)
  (hn:(assignEach es X.env).length=n:=by rfl) (hst:(assignEach es X.env).findIdx? (·.1)=none:=by rfl):PG X (.Tuple es k pos) (gTup X.K n t):=by
 intro zd s σ H v u Q I r hw
 obtain⟨a,xs,e1,hq,hl,hw⟩:=hw
 subst e1
 cases r
 obtain⟨its,rv,ht,hz⟩:=I.tuple hq
 refine assign_Tuple_tuple (I.ok.hd hc) ht (by simp [hn,←hl,rv.length]) hst fun h' hx=> ?_
 have I1:Inv X zd σ H {s with heap:=h'}:=I.kept (t':=s.toks) fun b o e=>hx b o (Nat.ne_of_lt (Heap.lt_size e)) e
 exact h zd _ σ H xs _ Q I1 (by simpa using rv) hw
def tAsg(te:TE)(g:TG):TS:=fun D σ H=>te σ H fun x H1=>g x σ H1 D.nx
theorem co_7{tg e:Expr}{te:TE}{g:TG}(he:PE X e te)(hg:PG X tg g)(hs:swapsWithSole [tg] e pos.line X.env=pure false:=by rfl)(hw:swappedStores [tg] e X.env=pure none:=by rfl)
  (h1:(assignEach [tg] X.env).map (·.2)= [assign tg X.env]:=by rfl):PS X (.Assign [tg] e pos) (tAsg te g):=by
 intro zd s σ H D I h
 refine wpAny_Assign_stores (thn (he zd s σ H _ I h) fun v s1 ⟨x,H1,I1,r1,q1⟩=> ?_) hs hw
 rw [h1]
 exact thn (hg zd s1 σ H1 x v _ I1 r1 q1) fun _ s2 q=>q
theorem bv_3{i:Nat}{x:Str}{e:Expr}{te:TE}{pos':Pos}(hN:X.N.Nodup)(hi:X.N[i]? =some x)(hx:Loc X.env.scope x)(he:PE X e te)(hs:swapsWith e (some (.Name x pos')) pos.line X.env=pure false:=by rfl)(hf:X.fn x=true∨X.env.scope.names.lookup x=some .local:=by first|exact .inl rfl|exact .inr rfl|assumption):
  PS X (.Assign [.Name x pos'] e pos) (tAsg te (bm_2 i)):=by
 intro zd s σ H D I h
 refine wpAny_Assign_Name (thn (he zd s σ H _ I h) fun v s1 ⟨y,H1,I1,r1,q1⟩=> ?_) hs
 exact ak_9 I1 hN hi hx r1 (fun s2 I2=>⟨_,H1,I2,q1⟩) hf
end
section
variable{X:Cx}{pos:Pos}
def co_8(c:TT)(tb:TS):TS:=fun D σ H=>∃W:Nat→St→Hp→Prop,(∃m,W m σ H)∧∀m σ H,W m σ H→
 c σ H fun b H1=>if b=true then∃N:St→Hp→Prop,(∀σ' H',N σ' H'→∃m',m' < m∧W m' σ' H')∧tb {D with nx:=N,ct:=N,bk:=D.nx} σ H1 else D.nx σ H1
theorem bv_4{c:Expr}{body:List Stmt}{tc:TT}{tb:TS}(hp:PassesOwn (model X.prog X.w) X.A X.env X.xe)(hc:PT X c tc)(hb:PSs X body tb):PS X (.While c body [] pos) (co_8 tc tb):=by
 intro zd s σ H D I h
 obtain⟨W,⟨m0,w0⟩,turn⟩:=h
 refine wpAny_While (codeAny_whileLoop (fun n s'=>∃σ' H',Inv X zd σ' H' s'∧W n σ' H') ?_ m0 ⟨σ,H,I,w0⟩)
 rintro n s1 ⟨σ1,H1,I1,w1⟩
 refine wpAny_passesOwn hp (thn (hc zd s1 σ1 H1 _ I1 (turn n σ1 H1 w1)) fun b s2 ⟨H2,I2,q2⟩=> ?_)
 cases b with
 |true=>
  obtain⟨N,hN,q2⟩:=q2
  rw [if_pos rfl]
  refine wpAny_passesOwn hp (thn (hb zd s2 σ1 H2 _ I2 q2) fun f s3 q3=> ?_)
  cases f with
  |next=>
   obtain⟨σ3,H3,I3,n3⟩:=q3
   obtain⟨m',hm,w3⟩:=hN σ3 H3 n3
   exact⟨m',hm,σ3,H3,I3,w3⟩
  |cont=>
   obtain⟨σ3,H3,I3,n3⟩:=q3
   obtain⟨m',hm,w3⟩:=hN σ3 H3 n3
   exact⟨m',hm,σ3,H3,I3,w3⟩
  |brk=>exact q3
  |ret v=>exact q3
 |false=>
  rw [if_neg Bool.false_ne_true]
  exact wpAny_execs_nil ⟨σ1,H2,I2,q2⟩
end
structure It where
 go:Nat→Hp→Prop
 yld:Nat→Hp→V→Hp→Prop
 stop:Nat→Hp→Prop
def FpOk(X:Cx)(zd:List (Addr×Obj))(H:Hp)(b:Addr):Prop:=
 H b=none∧b≠X.env.locals∧b∉X.fs∧(b∈X.ex∨X.s₀.heap.objs.size≤b)∧(∀x c,X.env.cells.lookup x=some c→c≠b)∧∀p∈X.pn ++ zd,p.1≠b
theorem Inv.fpOk{X:Cx}{zd:List (Addr×Obj)}{σ:St}{H H':Hp}{s:Shared}{b:Addr}(I:Inv X zd σ H s)(hb:s.heap.objs.size≤b)(hn:H' b=none):FpOk X zd H' b:=by
 refine⟨hn,Nat.ne_of_gt (Nat.lt_of_lt_of_le I.lt hb),I.nofs hb, .inr (Nat.le_trans I.sz hb),fun x c e z=> ?_,fun p hp z=> ?_⟩
 ·obtain⟨v,q⟩:=I.cell x c e
  exact absurd (Nat.lt_of_lt_of_le q.lt (by rw [z];exact hb)) (Nat.lt_irrefl _)
 ·exact absurd (Nat.lt_of_lt_of_le (Heap.lt_size (I.pin p hp).1) (by rw [z];exact hb)) (Nat.lt_irrefl _)
structure Turn(P:Program)(w:World)(K:Frag)(tg:Expr)(J:It)(fp:List Addr)(it:Addr)(tn:Nat→Heap→Prop):Prop where
 mem:it∈fp
 obj:∀i h,tn i h→∀b∈fp,∃o,h.get? b=some o∧∀v,o.data≠ .cell v
 keep:∀i h h',tn i h→(∀b∈fp,∀o,h.get? b=some o→h'.get? b=some o)→tn i h'
 item:∀(X:Cx),X.prog=P→X.w=w→X.K=K→X.calm=true→∀(i:Nat) (zd:List (Addr×Obj)) (s:Shared) (σ:St) (H:Hp) (E:Value→Shared→Prop),Inv X zd σ H s→(∀b∈fp,FpOk X zd H b)→tn i s.heap→J.go i H→
  wpAny (model P w) X.A (pyNext (.ref it)) (fun r s1=>∃u,r=some u∧
   wpAny (model P w) X.A (letOwnedTupleGo tg (.ref it) u) (fun _ s2=>∃x H',Inv X zd σ H' s2∧RelV x u∧J.yld i H x H'∧tn (i + 1) s2.heap∧∀b∈fp,H' b=none) E s1) E s
 done:∀(X:Cx),X.prog=P→X.w=w→X.K=K→X.calm=true→∀(i:Nat) (zd:List (Addr×Obj)) (s:Shared) (σ:St) (H:Hp) (E:Value→Shared→Prop),Inv X zd σ H s→(∀b∈fp,FpOk X zd H b)→tn i s.heap→J.stop i H→
  wpAny (model P w) X.A (pyNext (.ref it)) (fun r s1=>r=none∧Inv X zd σ H s1) E s
 self:∀(A:Around) (i:Nat) (s:Shared) (Q:Value→Shared→Prop) (E:Value→Shared→Prop),tn i s.heap→Q (.ref it) s→wpAny (model P w) A (pyIter (.ref it)) Q E s
abbrev TI:=St→Hp→(It→Hp→Prop)→Prop
def PIE(X:Cx)(zd:List (Addr×Obj))(σ:St)(tg:Expr)(R:It→Hp→Prop)(itv:Value)(s2:Shared):Prop:=
 ∃(it:Addr) (fp:List Addr) (tn:Nat→Heap→Prop) (J:It) (H':Hp),itv= .ref it∧Inv X zd σ H' s2∧Turn X.prog X.w X.K tg J fp it tn∧tn 0 s2.heap∧(∀b∈fp,FpOk X zd H' b)∧R J H'
def PI(X:Cx)(tg iter:Expr)(wi:TI):Prop:=
 ∀(zd:List (Addr×Obj)) (s:Shared) (σ:St) (H:Hp) (R:It→Hp→Prop),Inv X zd σ H s→wi σ H R→
  wpAny (model X.prog X.w) X.A (eval iter X.env) (fun v s1=>wpAny (model X.prog X.w) X.A (pyIter v) (PIE X zd σ tg R) X.xe s1) X.xe s
theorem bm_4{M:Model}{A:Around}{E:Value→Shared→Prop}{s:Shared}{tg:Expr}{it:Addr}{u:Value}{o:Obj}{n:String}{vs:Array Value}{Q:Unit→Shared→Prop}(ho:s.heap.get? it=some o)(hc:o.cls= .type n)(hd:o.data= .fields vs)
  (hn: ["enumerate", "zip", "dict_itemiterator", "dict_reverseitemiterator", "odict_iterator", "itertools.zip_longest", "itertools.pairwise"].contains n=false) (hQ:Q () s):wpAny M A (letOwnedTupleGo tg (.ref it) u) Q E s:=by
 unfold letOwnedTupleGo
 cases tg <;> first
  |exact wpAny_pure hQ
  | (cases u <;> first
    |exact wpAny_pure hQ
    | (refine wpAny_bind (wpAny_load ho ?_)
       rw [hc,hd]
       show wpAny M A (if(["enumerate", "zip", "dict_itemiterator", "dict_reverseitemiterator", "odict_iterator", "itertools.zip_longest", "itertools.pairwise"].contains n && vs[0]? ==some (rawInt _))=true then _ else _) Q E s
       rw [if_neg (by intro h;rw [hn,Bool.false_and] at h;cases h)]
       exact wpAny_pure hQ))
def Itl(K:Frag)(a:Addr):It:=
 ⟨fun i H=>∃xs x,SqL K H a xs∧xs[i]? =some x,fun i H x H'=>H'=H∧∀xs,SqL K H a xs→xs[i]? =some x,fun i H=>∃xs,SqL K H a xs∧xs.length≤i⟩
def Itt(K:Frag)(a:Addr):It:=
 ⟨fun i H=>∃xs x,SqT K H a xs∧xs[i]? =some x,fun i H x H'=>H'=H∧∀xs,SqT K H a xs→xs[i]? =some x,fun i H=>∃xs,SqT K H a xs∧xs.length≤i⟩
def Itr(lo:Int)(n:Nat):It:=⟨fun i _=>i < n,fun i H x H'=>H'=H∧x= .int (lo + i),fun i _=>n≤i⟩
theorem bq_9{P:Program}{w:World}{K:Frag}{tg:Expr}(a it:Addr):Turn P w K tg (Itl K a) [it] it (fun i h=>h.IsListIter it a i) where
 mem:=by simp
 obj:=fun i h st b hb=>by
  have e:b=it:=by simpa using hb
  subst e
  obtain⟨o,e,c,d⟩:=st
  exact⟨o,e,fun v z=>by rw [d] at z;cases z⟩
 keep:=fun i h h' st k=>st.at fun o e=>k it (by simp) o e
 item:=by
  intro X hP hw hK hc i zd s σ H E I hf st hg
  subst hP hw hK
  obtain⟨xs,x,hq,hx⟩:=hg
  obtain⟨its,rv,p,hz⟩:=I.list hq
  obtain⟨u,hu,ru⟩:=rv.get hx
  obtain⟨f0,f1,f2,f3,f4,f5⟩:=hf it (by simp)
  refine wpAny_pyNext_list_item st p.isList (x:=u) (by simpa using hu) fun h' st' sb=> ?_
  have I1:Inv X zd σ H {s with heap:=h'}:=I.turned (t':=s.toks) (fun b o hb e=>(sb.2 b hb).trans e) f0 f1 f3 f4 f5
  obtain⟨o,e,c,d⟩:=id st'
  exact⟨u,rfl,bm_4 (s:={s with heap:=h'}) e c d (by decide) ⟨x,H,I1,ru,⟨rfl,fun ys hy=>by rw [I.list_inj hy hq];exact hx⟩,st',fun b hb=>(hf b hb).1⟩⟩
 done:=by
  intro X hP hw hK hc i zd s σ H E I hf st hg
  subst hP hw hK
  obtain⟨xs,hq,hx⟩:=hg
  obtain⟨its,rv,p,hz⟩:=I.list hq
  obtain⟨f0,f1,f2,f3,f4,f5⟩:=hf it (by simp)
  have hl:=rv.length
  exact wpAny_pyNext_list_end (I.ok.hd hc) st p.isList (by simp;omega) fun h' eb=>⟨rfl,I.turned (t':=s.toks) (fun b o hb e=>eb b o hb e) f0 f1 f3 f4 f5⟩
 self:=fun _ _ _ _ _ st h=>wpAny_pyIter_listiter st h
theorem bi_1{P:Program}{w:World}{K:Frag}{tg:Expr}(a it:Addr):Turn P w K tg (Itt K a) [it] it (fun i h=>h.IsTupleIter it a i) where
 mem:=by simp
 obj:=fun i h st b hb=>by
  have e:b=it:=by simpa using hb
  subst e
  obtain⟨o,e,c,d⟩:=st
  exact⟨o,e,fun v z=>by rw [d] at z;cases z⟩
 keep:=fun i h h' st k=>st.at fun o e=>k it (by simp) o e
 item:=by
  intro X hP hw hK hc i zd s σ H E I hf st hg
  subst hP hw hK
  obtain⟨xs,x,hq,hx⟩:=hg
  obtain⟨its,rv,p,hz⟩:=I.tuple hq
  obtain⟨u,hu,ru⟩:=rv.get hx
  obtain⟨f0,f1,f2,f3,f4,f5⟩:=hf it (by simp)
  refine wpAny_pyNext_tuple_item st (show s.heap.IsTuple a its.toArray from p) (x:=u) (by simpa using hu) fun h' st' sb=> ?_
  have I1:Inv X zd σ H {s with heap:=h'}:=I.turned (t':=s.toks) (fun b o hb e=>(sb.2 b hb).trans e) f0 f1 f3 f4 f5
  obtain⟨o,e,c,d⟩:=id st'
  exact⟨u,rfl,bm_4 (s:={s with heap:=h'}) e c d (by decide) ⟨x,H,I1,ru,⟨rfl,fun ys hy=>by rw [I.tuple_inj hy hq];exact hx⟩,st',fun b hb=>(hf b hb).1⟩⟩
 done:=by
  intro X hP hw hK hc i zd s σ H E I hf st hg
  subst hP hw hK
  obtain⟨xs,hq,hx⟩:=hg
  obtain⟨its,rv,p,hz⟩:=I.tuple hq
  obtain⟨f0,f1,f2,f3,f4,f5⟩:=hf it (by simp)
  have hl:=rv.length
  exact wpAny_pyNext_tuple_end (I.ok.hd hc) st (show s.heap.IsTuple a its.toArray from p) (by simp;omega) fun h' eb=>⟨rfl,I.turned (t':=s.toks) (fun b o hb e=>eb b o hb e) f0 f1 f3 f4 f5⟩
 self:=fun _ _ _ _ _ st h=>wpAny_pyIter_tupleiter st h
theorem bi_2{P:Program}{w:World}{K:Frag}{tg:Expr}(it:Addr)(lo:Int)(n:Nat):Turn P w K tg (Itr lo n) [it] it (fun i h=>IsRangeIter h it (lo + (i:Nat) * 1) ((n:Int) - (i:Nat)) 1) where
 mem:=by simp
 obj:=fun i h st b hb=>by
  have e:b=it:=by simpa using hb
  subst e
  exact⟨_,st,fun v z=>by
   have z':Data.fields _=Data.cell v:=z
   cases z'⟩
 keep:=fun i h h' st k=>k it (by simp) _ st
 item:=by
  intro X hP hw hK hc i zd s σ H E I hf st hg
  subst hP hw hK
  obtain⟨f0,f1,f2,f3,f4,f5⟩:=hf it (by simp)
  have W:=Walks.range (prog:=X.prog) (w:=X.w) (I.ok.hd hc) it lo 1 n
  refine W.item i s _ _ hg st fun v h' tk hv st' kk=> ?_
  obtain⟨t,rfl⟩:=hv
  have I1:Inv X zd σ H {s with heap:=h',toks:=tk}:=I.turned (fun b o hb e=>kk b o (by simpa using hb) e) f0 f1 f3 f4 f5
  refine⟨_,rfl,bm_4 (s:={s with heap:=h',toks:=tk}) (n:= "range_iterator") st' rfl rfl (by decide) ⟨.int (lo + i),H,I1,⟨t, ?_⟩,⟨rfl,rfl⟩,st',fun b hb=>(hf b hb).1⟩⟩
  rw [Int.mul_one]
 done:=by
  intro X hP hw hK hc i zd s σ H E I hf st hg
  subst hP hw hK
  obtain⟨f0,f1,f2,f3,f4,f5⟩:=hf it (by simp)
  exact wpAny_pyNext_range_end (I.ok.hd hc) st (by have:n≤i:=hg;omega) fun h' eb=>⟨rfl,I.turned (t':=s.toks) (fun b o hb e=>eb b o hb e) f0 f1 f3 f4 f5⟩
 self:=fun _ _ _ _ _ st h=>wpAny_pyIter_rangeiter st h
section
variable{X:Cx}{tg:Expr}
theorem bv_5{zd:List (Addr×Obj)}{σ:St}{H:Hp}{s:Shared}{R:It→Hp→Prop}{E:Value→Shared→Prop}{lo hi:Int}{t u v:Tok}{tk:Nat}(I:Inv X zd σ H s)(h1: -(2 ^ 62)≤lo)(h2:lo < 2 ^ 62)(h3: -(2 ^ 62)≤hi)(h4:hi < 2 ^ 62)
  (q:R (Itr lo (hi - lo).toNat) H):wpAny (model X.prog X.w) X.A (pyIter (.ref s.heap.objs.size)) (PIE X zd σ tg R) E {s with heap:=s.heap.push {cls:= .type "range",data:= .fields #[.int lo t, .int hi u, .int 1 v]},toks:=tk}:=by
 refine wpAny_pyIter_range (IsRange.new ..) (small_one h1 h2 h3 h4) ?_
 have I1:Inv X zd σ H {s with heap:=s.heap.push {cls:= .type "range",data:= .fields #[.int lo t, .int hi u, .int 1 v]},toks:=tk}:=I.kept fun b o e=>Heap.get?_push_of_some _ e
 refine⟨(s.heap.push {cls:= .type "range",data:= .fields #[.int lo t, .int hi u, .int 1 v]}).objs.size, [(s.heap.push {cls:= .type "range",data:= .fields #[.int lo t, .int hi u, .int 1 v]}).objs.size],_,_,H,rfl,
  I1.kept (t':=tk) fun b o e=>Heap.get?_push_of_some _ e,bi_2 _ lo (hi - lo).toNat, ?_,fun b hb=> ?_,q⟩
 ·have e1:lo + ((0:Nat):Int) * 1=lo:=by simp
  have e2:(((hi - lo).toNat:Nat):Int) - ((0:Nat):Int)=Builtin.Range.rangeSize lo hi 1:=by rw [rangeSize_one];split <;> omega
  show IsRangeIter _ _ (lo + ((0:Nat):Int) * 1) ((((hi - lo).toNat:Nat):Int) - ((0:Nat):Int)) 1
  rw [e1,e2]
  exact Heap.get?_push_size _ rfl
 ·have e:b=(s.heap.push {cls:= .type "range",data:= .fields #[.int lo t, .int hi u, .int 1 v]}).objs.size:=by simpa using hb
  subst e
  exact I1.fpOk (Nat.le_refl _) (I1.hok.fresh (Nat.le_refl _))
def cu_9(ta:TA):TI:=fun σ H R=>ta σ H fun vs H1=>∃j:Int,vs= [.int j]∧ -(2 ^ 62)≤j∧j < 2 ^ 62∧R (Itr 0 j.toNat) H1
theorem br_0{a:Expr}{ta:TA}{p pos:Pos}(hg:Gl X "range")(hm:X.mg "range" =none)(ha:PA X [a] ta)(hs:starEach [a] X.env= [(false,eval a X.env)]:=by rfl):PI X tg (.Call (.Name "range" p) [a] [] pos) (cu_9 ta):=by
 intro zd s σ H R I h
 refine Call_ (p_6 I hg hm boot_range (PyProof.Rows.callWith_type1 (thn (ha pos zd s σ H _ I h) fun us s1 ⟨vs,H1,I1,r1,q1⟩=> ?_) hs rfl))
 obtain⟨j,e,q1,q2,q⟩:=q1
 subst e
 cases r1 with
 |cons r rr=>
  cases rr
  obtain⟨t,rfl⟩:=r
  exact call_range_1 (bv_5 I1 (by omega) (by omega) q1 q2 (by simpa using q))
def tFor(wi:TI)(g:TG)(tb:TS):TS:=fun D σ H=>wi σ H fun J H1=>∃W:Nat→Nat→St→Hp→Prop,(∃m,W 0 m σ H1)∧∀i m σ H,W i m σ H→
 (J.stop i H∧D.nx σ H)∨(J.go i H∧∃N:St→Hp→Prop,(∀σ' H',N σ' H'→∃m',m' < m∧W (i + 1) m' σ' H')∧∀x H',J.yld i H x H'→g x σ H' fun σ2 H2=>tb {D with nx:=N,ct:=N,bk:=D.nx} σ2 H2)
def al_0(fp:List Addr)(h:Heap):List (Addr×Obj):=fp.filterMap fun b=>(h.get? b).map fun o=>(b,o)
theorem t_9{fp:List Addr}{h:Heap}{b:Addr}{o:Obj}(hb:b∈fp)(e:h.get? b=some o):(b,o)∈al_0 fp h:=List.mem_filterMap.mpr ⟨b,hb,by rw [e];rfl⟩
theorem br_1{fp:List Addr}{h:Heap}{p:Addr×Obj}(hp:p∈al_0 fp h):p.1∈fp∧h.get? p.1=some p.2:=by
 obtain⟨b,hb,e⟩:=List.mem_filterMap.mp hp
 cases q:h.get? b with
 |none=>rw [q] at e;cases e
 |some o=>
  rw [q] at e
  have e':(b,o)=p:=Option.some.inj e
  subst e'
  exact⟨hb,q⟩
theorem Inv.pinned{zd:List (Addr×Obj)}{σ:St}{H:Hp}{s:Shared}{fp:List Addr}(I:Inv X zd σ H s)(hf:∀b∈fp,FpOk X zd H b)(ho:∀b∈fp,∃o,s.heap.get? b=some o∧∀v,o.data≠ .cell v):Inv X (zd ++ al_0 fp s.heap) σ H s:=
 I.pins_of fun p hp=>(List.mem_append.mp hp).elim (fun z=>I.pin p (List.mem_append_right _ z)) fun z=>by
  obtain⟨hb,e⟩:=br_1 z
  obtain⟨f0,f1,f2,_⟩:=hf p.1 hb
  obtain⟨o,e',d⟩:=ho p.1 hb
  rw [e] at e';cases e'
  exact⟨e,f0,f1,f2,d⟩
theorem Inv.unpinned{zd pl:List (Addr×Obj)}{σ:St}{H:Hp}{s:Shared}(I:Inv X (zd ++ pl) σ H s):Inv X zd σ H s:=I.pins_of fun p hp=>I.pin p (List.mem_append_right _ (List.mem_append_left _ hp))
theorem co_9{iter:Expr}{body:List Stmt}{wi:TI}{g:TG}{tb:TS}{pos:Pos}(hp:PassesOwn (model X.prog X.w) X.A X.env X.xe)(hc:X.calm=true)(hi:PI X tg iter wi)(hg:PG X tg g)(hb:PSs X body tb)
  (hs:∀x,foldedSetIterable iter X.env x=pure x:=by intro _;rfl):PS X (.For tg iter body [] pos) (tFor wi g tb):=by
 intro zd s σ H D I h
 refine wpAny_For (thn (hi zd s σ H _ I h) fun v s1 h1=>thn h1 fun itv s2 h2=> ?_) hs
 obtain⟨it,fp,tn,J,H2,e,I2,T,st2,f2,W,⟨m0,w0⟩,turn⟩:=h2
 subst e
 
 have bw:∀{H':Hp},(∀b∈fp,H' b=none)→∀b∈fp,FpOk X zd H' b:=fun hn b hb=>⟨hn b hb,(f2 b hb).2⟩
 refine codeAny_forLoop_any (fun n s'=>∃i σ' H',Inv X zd σ' H' s'∧tn i s'.heap∧(∀b∈fp,H' b=none)∧W i n σ' H') ?_ m0 ⟨0,σ,H2,I2,st2,fun b hb=>(f2 b hb).1,w0⟩
 rintro n s3 ⟨i,σ3,H3,I3,st3,fr3,w3⟩
 rcases turn i n σ3 H3 w3 with⟨stop,qn⟩|⟨go,N,hN,step⟩
 ·refine wpAny_passesOwn hp (thn (T.done X rfl rfl rfl hc i zd s3 σ3 H3 X.xe I3 (bw fr3) st3 stop) fun r s4 ⟨hr,I4⟩=> ?_)
  subst hr
  exact wpAny_execs_nil ⟨σ3,H3,I4,qn⟩
 ·refine wpAny_passesOwn hp (thn (T.item X rfl rfl rfl hc i zd s3 σ3 H3 X.xe I3 (bw fr3) st3 go) fun r s4 ⟨u,hr,h4⟩=> ?_)
  subst hr
  refine wpAny_passesOwn hp (thn h4 fun _ s5 ⟨x,H5,I5,r5,y5,st5,fr5⟩=> ?_)
  have I5':=I5.pinned (bw fr5) (T.obj _ _ st5)
  refine wpAny_passesOwn hp (thn (hg _ s5 σ3 H5 x u _ I5' r5 (step x H5 y5)) fun _ s6 ⟨σ6,H6,I6,q6⟩=> ?_)
  refine wpAny_passesOwn hp (thn (hb _ s6 σ6 H6 _ I6 q6) fun f s7 q7=> ?_)
  have again:∀{σ7:St} {H7:Hp},Inv X (zd ++ al_0 fp s5.heap) σ7 H7 s7→N σ7 H7→∃m,m < n∧∃i σ' H',Inv X zd σ' H' s7∧tn i s7.heap∧(∀b∈fp,H' b=none)∧W i m σ' H':=fun{σ7 H7} I7 n7=>by
   obtain⟨m',hm,w7⟩:=hN σ7 H7 n7
   refine⟨m',hm,i + 1,σ7,H7,I7.unpinned,T.keep _ _ _ st5 fun b hb o e=>(I7.pin (b,o) (List.mem_append_right _ (List.mem_append_right _ (t_9 hb e)))).1,fun b hb=> ?_,w7⟩
   obtain⟨o,e,d⟩:=T.obj _ _ st5 b hb
   exact(I7.pin (b,o) (List.mem_append_right _ (List.mem_append_right _ (t_9 hb e)))).2.1
  cases f with
  |next=>obtain⟨σ7,H7,I7,n7⟩:=q7;exact again I7 n7
  |cont=>obtain⟨σ7,H7,I7,n7⟩:=q7;exact again I7 n7
  |brk=>obtain⟨σ7,H7,I7,q7⟩:=q7;exact⟨σ7,H7,I7.unpinned,q7⟩
  |ret v=>obtain⟨x7,σ7,H7,I7,r7,q7⟩:=q7;exact⟨x7,σ7,H7,I7.unpinned,r7,q7⟩
end
abbrev R2:=V→V→Hp→VK→Prop
def OpR(X:Cx)(f:Value→Value→Sem Value)(r:R2):Prop:=
 ∀(zd:List (Addr×Obj)) (s:Shared) (σ:St) (H:Hp) (x y:V) (v u:Value) (Q:VK),Inv X zd σ H s→RelV x v→RelV y u→r x y H Q→
  wpAny (model X.prog X.w) X.A (f v u) (EP X zd σ Q) X.xe s
def y_6(X:Cx)(f:Value)(r:List V→Hp→VK→Prop):Prop:=
 ∀(zd:List (Addr×Obj)) (s:Shared) (σ:St) (H:Hp) (xs:List V) (us:List Value) (Q:VK),Inv X zd σ H s→Vals xs us→r xs H Q→
  wpAny (model X.prog X.w) X.A (call f us) (EP X zd σ Q) X.xe s
def TruR(X:Cx)(r:V→Hp→(Bool→Hp→Prop)→Prop):Prop:=
 ∀(zd:List (Addr×Obj)) (s:Shared) (σ:St) (H:Hp) (x:V) (v:Value) (Q:Bool→Hp→Prop),Inv X zd σ H s→RelV x v→r x H Q→
  wpAny (model X.prog X.w) X.A (truthy v) (TP X zd σ Q) X.xe s
def tOp(r:R2)(ta tb:TE):TE:=fun σ H Q=>ta σ H fun x H1=>tb σ H1 fun y H2=>r x y H2 Q
def rI(C:Int→Int→Prop)(g:Int→Int→V):R2:=fun x y H Q=>∃i j,x= .int i∧y= .int j∧C i j∧Q (g i j) H
def rI0(g:Int→Int→V):R2:=fun x y H Q=>∃i j,x= .int i∧y= .int j∧Q (g i j) H
section
variable{X:Cx}{a b c:Expr}{ta tb tc:TE}{pos:Pos}
theorem binT(ha:PE X a ta)(hb:PE X b tb){zd:List (Addr×Obj)}{s:Shared}{σ:St}{H:Hp}{R:V→V→Hp→Prop}(I:Inv X zd σ H s)
  (h:ta σ H fun x H1=>tb σ H1 fun y H2=>R x y H2) {Q:Value→Shared→Prop} {f:Value→Value→Sem Value}
  (hf:∀v u s2 x y H2,Inv X zd σ H2 s2→RelV x v→RelV y u→R x y H2→wpAny (model X.prog X.w) X.A (f v u) Q X.xe s2):
  wpAny (model X.prog X.w) X.A (eval a X.env) (fun v s₁=>wpAny (model X.prog X.w) X.A (eval b X.env) (fun u s₂=>wpAny (model X.prog X.w) X.A (f v u) Q X.xe s₂) X.xe s₁) X.xe s:=by
 refine thn (ha zd s σ H _ I h) fun v s1 ⟨x,H1,I1,r1,q1⟩=> ?_
 refine thn (hb zd s1 σ H1 _ I1 q1) fun u s2 ⟨y,H2,I2,r2,q2⟩=> ?_
 exact hf v u s2 x y H2 I2 r1 r2 q2
theorem cv_0{op:Operator}{r:R2}(ho:OpR X (binaryOp op) r)(ha:PE X a ta)(hb:PE X b tb):PE X (.BinOp a op b pos) (tOp r ta tb):=by
 intro zd s σ H Q I h
 exact wpAny_BinOp (binT ha hb I h fun v u s2 x y H2 I2 rx ry q=>ho zd s2 σ H2 x y v u Q I2 rx ry q)
theorem opI{f:Value→Value→Sem Value}{C:Int→Int→Prop}{g:Int→Int→Int}
  (rule:∀(i j:Int) (t u:Tok) (s:Shared) (Q:Value→Shared→Prop) (E:Value→Shared→Prop),C i j→Q (.int (g i j) s.toks) {s with toks:=s.toks + 1}→wpAny (model X.prog X.w) X.A (f (.int i t) (.int j u)) Q E s):
  OpR X f (rI C fun i j=> .int (g i j)):=by
 intro zd s σ H x y v u Q I rx ry h
 obtain⟨i,j,rfl,rfl,hc,q⟩:=h
 obtain⟨t,rfl⟩:=rx
 obtain⟨t',rfl⟩:=ry
 exact rule i j t t' s _ _ hc ⟨.int (g i j),H,I.tok _,⟨_,rfl⟩,q⟩
theorem opI0{f:Value→Value→Sem Value}{g:Int→Int→Int}
  (rule:∀(i j:Int) (t u:Tok) (s:Shared) (Q:Value→Shared→Prop) (E:Value→Shared→Prop),Q (.int (g i j) s.toks) {s with toks:=s.toks + 1}→wpAny (model X.prog X.w) X.A (f (.int i t) (.int j u)) Q E s):
  OpR X f (rI0 fun i j=> .int (g i j)):=by
 intro zd s σ H x y v u Q I rx ry h
 obtain⟨i,j,rfl,rfl,q⟩:=h
 obtain⟨t,rfl⟩:=rx
 obtain⟨t',rfl⟩:=ry
 exact rule i j t t' s _ _ ⟨.int (g i j),H,I.tok _,⟨_,rfl⟩,q⟩
theorem opB0{f:Value→Value→Sem Value}{g:Int→Int→Bool}
  (rule:∀(i j:Int) (t u:Tok) (s:Shared) (Q:Value→Shared→Prop) (E:Value→Shared→Prop),Q (.bool (g i j)) s→wpAny (model X.prog X.w) X.A (f (.int i t) (.int j u)) Q E s):
  OpR X f (rI0 fun i j=> .bl (g i j)):=by
 intro zd s σ H x y v u Q I rx ry h
 obtain⟨i,j,rfl,rfl,q⟩:=h
 obtain⟨t,rfl⟩:=rx
 obtain⟨t',rfl⟩:=ry
 exact rule i j t t' s _ _ ⟨.bl (g i j),H,I,rfl,q⟩
def CPow(i j:Int):Prop:=0≤j∧j≤1000000∧i.natAbs < 2 ^ 64
def CMul(i j:Int):Prop:=(-(2 ^ 64) < i∧i < 2 ^ 64)∨(-(2 ^ 64) < j∧j < 2 ^ 64)
theorem CMul.ok{i j:Int}(h:CMul i j):IntMulOk i j:=by
 rcases h with⟨h1,h2⟩|⟨h1,h2⟩
 ·exact .of_left (intBits_le_64 h1 h2)
 ·exact .of_right (intBits_le_64 h1 h2)
theorem cp_2:OpR X (binaryOp .Add) (rI0 fun i j=> .int (i + j)):=opI0 fun _ _ _ _ _ _ _ q=>add_int q
theorem cp_3:OpR X (binaryOp .Mult) (rI CMul fun i j=> .int (i * j)):=opI fun _ _ _ _ _ _ _ hc q=>mul_int q hc.ok
theorem cp_4:OpR X (binaryOp .Mod) (rI (fun _ j=>0 < j) fun i j=> .int (i % j)):=opI fun i j _ _ _ _ _ hc q=>by
 have h1:(0:Int) < j:=hc
 exact mod_int' (by omega) (by rw [Int.fmod_eq_emod_of_nonneg i (by omega)];exact q)
theorem cp_5:OpR X (binaryOp .Pow) (rI CPow fun i j=> .int (i ^ j.toNat)):=opI fun _ _ _ _ _ _ _ hc q=>pow_int_small hc.1 hc.2.1 hc.2.2 q
end
def scal:V→V→Bool
 | .non, .non=>true| .non, .int _=>true| .int _, .non=>true| .non, .bl _=>true| .bl _, .non=>true| .non, .str _=>true| .str _, .non=>true
 | .int _, .int _=>true| .bl _, .bl _=>true| .str _, .str _=>true| .byt _, .byt _=>true
 | .int _, .str _=>true| .str _, .int _=>true| .bl _, .str _=>true| .str _, .bl _=>true
 |_,_=>false
def rEq:R2:=fun x y H Q=>scal x y=true∧Q (.bl (decide (x=y))) H
def rNe:R2:=fun x y H Q=>scal x y=true∧Q (.bl (!decide (x=y))) H
theorem bm_5{i j:Int}:decide (V.int i=V.int j)=(i ==j):=by
 rw [Bool.eq_iff_iff]
 simp
theorem bv_6{i j:Bool}:decide (V.bl i=V.bl j)=(i ==j):=by
 rw [Bool.eq_iff_iff]
 simp
theorem bm_6{i j:Str}:decide (V.str i=V.str j)=(i ==j):=by
 rw [Bool.eq_iff_iff]
 simp
theorem bm_7{i j:Array UInt8}:decide (V.byt i=V.byt j)=(i.toList ==j.toList):=by
 rw [Bool.eq_iff_iff]
 cases i
 cases j
 simp
section
variable{X:Cx}{a b c:Expr}{ta tb tc:TE}{pos:Pos}
theorem c_6{zd:List (Addr×Obj)}{σ:St}{H:Hp}{s:Shared}{Q:VK}{k k':Bool}(I:Inv X zd σ H s)(q:Q (.bl k) H)(e:k=k'):EP X zd σ Q (.bool k') s:=by
 subst e
 exact⟨.bl k,H,I,rfl,q⟩
theorem cv_3:OpR X (compareOp .Eq) rEq:=by
 intro zd s σ H x y v u Q I rx ry h
 obtain⟨hs,q⟩:=h
 cases x with
 |non=>
  cases rx
  cases y with
  |non=>cases ry;exact PySem.EqNone.eq_none_none (c_6 I q (by simp))
  |bl j=>cases ry;exact PySem.EqNone.eq_none_bool (c_6 I q (by simp))
  |int j=>obtain⟨t',rfl⟩:=ry;exact PySem.EqNone.eq_none_int (c_6 I q (by simp))
  |str j=>obtain⟨t',rfl⟩:=ry;exact PySem.EqNone.eq_none_str (c_6 I q (by simp))
  |_=>exact absurd (show false=true from hs) Bool.false_ne_true
 |bl i=>
  cases rx
  cases y with
  |non=>cases ry;exact PySem.EqNone.eq_bool_none (c_6 I q (by simp))
  |bl j=>cases ry;exact eq_bool (c_6 I q bv_6)
  |str j=>obtain⟨t',rfl⟩:=ry;exact PySem.EqMixed.eq_bool_str (c_6 I q (by simp))
  |_=>exact absurd (show false=true from hs) Bool.false_ne_true
 |int i=>
  obtain⟨t,rfl⟩:=rx
  cases y with
  |non=>cases ry;exact PySem.EqNone.eq_int_none (c_6 I q (by simp))
  |int j=>obtain⟨t',rfl⟩:=ry;exact eq_int (c_6 I q bm_5)
  |str j=>obtain⟨t',rfl⟩:=ry;exact PySem.EqMixed.eq_int_str (c_6 I q (by simp))
  |_=>exact absurd (show false=true from hs) Bool.false_ne_true
 |str i=>
  obtain⟨t,rfl⟩:=rx
  cases y with
  |non=>cases ry;exact PySem.EqNone.eq_str_none (c_6 I q (by simp))
  |bl j=>cases ry;exact PySem.EqMixed.eq_str_bool (c_6 I q (by simp))
  |int j=>obtain⟨t',rfl⟩:=ry;exact PySem.EqMixed.eq_str_int (c_6 I q (by simp))
  |str j=>obtain⟨t',rfl⟩:=ry;exact eq_str (c_6 I q bm_6)
  |_=>exact absurd (show false=true from hs) Bool.false_ne_true
 |byt i=>
  obtain⟨t,rfl⟩:=rx
  cases y with
  |byt j=>obtain⟨t',rfl⟩:=ry;exact eq_bytes (c_6 I q bm_7)
  |_=>exact absurd (show false=true from hs) Bool.false_ne_true
 |_=>cases y <;> exact absurd (show false=true from hs) Bool.false_ne_true
theorem cv_4:OpR X (compareOp .NotEq) rNe:=by
 intro zd s σ H x y v u Q I rx ry h
 obtain⟨hs,q⟩:=h
 cases x with
 |non=>
  cases rx
  cases y with
  |non=>cases ry;exact PySem.EqNone.ne_none_none (c_6 I q (by simp))
  |bl j=>cases ry;exact PySem.EqNone.ne_none_bool (c_6 I q (by simp))
  |int j=>obtain⟨t',rfl⟩:=ry;exact PySem.EqNone.ne_none_int (c_6 I q (by simp))
  |str j=>obtain⟨t',rfl⟩:=ry;exact PySem.EqNone.ne_none_str (c_6 I q (by simp))
  |_=>exact absurd (show false=true from hs) Bool.false_ne_true
 |bl i=>
  cases rx
  cases y with
  |non=>cases ry;exact PySem.EqNone.ne_bool_none (c_6 I q (by simp))
  |bl j=>cases ry;exact ne_bool (c_6 I q (congrArg not bv_6))
  |str j=>obtain⟨t',rfl⟩:=ry;exact PySem.EqMixed.ne_bool_str (c_6 I q (by simp))
  |_=>exact absurd (show false=true from hs) Bool.false_ne_true
 |int i=>
  obtain⟨t,rfl⟩:=rx
  cases y with
  |non=>cases ry;exact PySem.EqNone.ne_int_none (c_6 I q (by simp))
  |int j=>obtain⟨t',rfl⟩:=ry;exact ne_int (c_6 I q (congrArg not bm_5))
  |str j=>obtain⟨t',rfl⟩:=ry;exact PySem.EqMixed.ne_int_str (c_6 I q (by simp))
  |_=>exact absurd (show false=true from hs) Bool.false_ne_true
 |str i=>
  obtain⟨t,rfl⟩:=rx
  cases y with
  |non=>cases ry;exact PySem.EqNone.ne_str_none (c_6 I q (by simp))
  |bl j=>cases ry;exact PySem.EqMixed.ne_str_bool (c_6 I q (by simp))
  |int j=>obtain⟨t',rfl⟩:=ry;exact PySem.EqMixed.ne_str_int (c_6 I q (by simp))
  |str j=>obtain⟨t',rfl⟩:=ry;exact ne_str (c_6 I q (congrArg not bm_6))
  |_=>exact absurd (show false=true from hs) Bool.false_ne_true
 |byt i=>
  obtain⟨t,rfl⟩:=rx
  cases y with
  |byt j=>obtain⟨t',rfl⟩:=ry;exact ne_bytes (c_6 I q (congrArg not bm_7))
  |_=>exact absurd (show false=true from hs) Bool.false_ne_true
 |_=>cases y <;> exact absurd (show false=true from hs) Bool.false_ne_true
theorem cv_5:OpR X (compareOp .Lt) (rI0 fun i j=> .bl (decide (i < j))):=opB0 fun _ _ _ _ _ _ _ q=>lt_int q
theorem cv_6:OpR X (compareOp .LtE) (rI0 fun i j=> .bl (decide (i≤j))):=opB0 fun _ _ _ _ _ _ _ q=>le_int q
theorem cv_7:OpR X (compareOp .Gt) (rI0 fun i j=> .bl (decide (j < i))):=opB0 fun _ _ _ _ _ _ _ q=>gt_int q
theorem br_2:OpR X (compareOp .In) (fun x y H Q=>∃i j,x= .str i∧y= .str j∧Q (.bl (!(Builtin.Str.occurrences j i 0 j.length 1).isEmpty)) H):=by
 intro zd s σ H x y v u Q I rx ry h
 obtain⟨i,j,rfl,rfl,q⟩:=h
 obtain⟨t,rfl⟩:=rx
 obtain⟨t',rfl⟩:=ry
 exact in_str (c_6 I q rfl)
theorem cp_6:OpR X (compareOp .Is) (fun x y H Q=>y= .non∧Q (.bl (decide (x= .non))) H):=by
 intro zd s σ H x y v u Q I rx ry h
 obtain⟨rfl,q⟩:=h
 cases ry
 refine is_none_gen (c_6 I q ?_)
 cases x <;> first
  |(cases rx;rfl)
  |(obtain⟨t,rfl⟩:=rx;rfl)
theorem ce_9:OpR X (compareOp .IsNot) (fun x y H Q=>y= .non∧Q (.bl (!decide (x= .non))) H):=by
 intro zd s σ H x y v u Q I rx ry h
 obtain⟨rfl,q⟩:=h
 cases ry
 refine isnot_none_gen (c_6 I q ?_)
 cases x <;> first
  |(cases rx;rfl)
  |(obtain⟨t,rfl⟩:=rx;rfl)
theorem c_0(b:Expr){op:CmpOp}(h:op≠ .In:=by decide)(h2:op≠ .NotIn:=by decide):behindInMarks op b=false:=by
 have e1:(op ==CmpOp.In)=false:=by cases op <;> first|rfl|exact absurd rfl h
 have e2:(op ==CmpOp.NotIn)=false:=by cases op <;> first|rfl|exact absurd rfl h2
 cases b <;> simp [behindInMarks,e1,e2]
theorem cf_0{op:CmpOp}{r:R2}(ho:OpR X (compareOp op) r)(ha:PE X a ta)(hb:PE X b tb)(hm:behindInMarks op b=false):PE X (.Compare a [op] [b] pos) (tOp r ta tb):=by
 intro zd s σ H Q I h
 exact wpAny_Compare1 (binT ha hb I h fun v u s2 x y H2 I2 rx ry q=>ho zd s2 σ H2 x y v u Q I2 rx ry q) hm
def cv_8(t:TE):TT:=fun σ H Q=>t σ H fun x H'=>∃k,x= .bl k∧Q k H'
theorem cf_1{op:CmpOp}{r:R2}(ho:OpR X (compareOp op) r)(ha:PE X a ta)(hb:PE X b tb)(hm:behindInMarks op b=false):PT X (.Compare a [op] [b] pos) (cv_8 (tOp r ta tb)):=by
 intro zd s σ H Q I h
 refine wpAny_isTrue_Compare1 (thn (ha zd s σ H _ I h) fun v s1 ⟨x,H1,I1,r1,q1⟩=>thn (hb zd s1 σ H1 _ I1 q1) fun u s2 ⟨y,H2,I2,r2,q2⟩=>
  thn (ho zd s2 σ H2 x y v u _ I2 r1 r2 q2) fun c s3 ⟨z,H3,I3,r3,k,e,q3⟩=> ?_) hm
 subst e
 cases r3
 exact wpAny_truthy_bool ⟨H3,I3,q3⟩
def bv_7(r r':R2)(ta tb tc:TE):TE:=fun σ H Q=>ta σ H fun x H1=>tb σ H1 fun y H2=>r x y H2 fun z H3=>∃k,z= .bl k∧
 (if k=true then tc σ H3 fun w' H4=>r' y w' H4 Q else Q (.bl false) H3)
theorem bv_8{op op':CmpOp}{r r':R2}(ho:OpR X (compareOp op) r)(ho':OpR X (compareOp op') r')(ha:PE X a ta)(hb:PE X b tb)(hc:PE X c tc)
  (hm:lastMarks [op,op'] [b,c]=false:=by with_unfolding_all rfl):PE X (.Compare a [op,op'] [b,c] pos) (bv_7 r r' ta tb tc):=by
 intro zd s σ H Q I h
 refine Compare_chain (thn (ha zd s σ H _ I h) fun v s1 ⟨x,H1,I1,r1,q1⟩=>chain_link (thn (hb zd s1 σ H1 _ I1 q1) fun u s2 ⟨y,H2,I2,r2,q2⟩=>
  thn (ho zd s2 σ H2 x y v u _ I2 r1 r2 q2) fun d s3 ⟨z,H3,I3,r3,k,e,q3⟩=> ?_)) hm
 subst e
 cases r3
 refine wpAny_truthy_bool ?_
 cases k with
 |false=>exact ite_ff ⟨.bl false,H3,I3,rfl,q3⟩
 |true=>exact ite_tt (chain_last (thn (hc zd s3 σ H3 _ I3 q3) fun w' s4 ⟨z',H4,I4,r4,q4⟩=>ho' zd s4 σ H4 y z' u w' Q I4 r2 r4 q4))
def TruV(K:Frag)(x:V)(H:Hp)(k:Bool):Prop:=
 match x with
 | .non=>k=false
 | .bl b=>k=b
 | .int i=>k=(i != 0)
 | .str y=>y.length≤sizeLine∧k=((y.length:Int) != 0)
 | .byt y=>y.size≤sizeLine∧k=((y.size:Int) != 0)
 | .ref p=>(∃xs,SqL K H p xs∧k= !xs.isEmpty)∨(∃xs,SqT K H p xs∧k= !xs.isEmpty)∨∃kvs,H p=some (.dK kvs)∧k= !kvs.isEmpty
 |_=>False
theorem bi_3{κ:Type}{kvs:List (κ×V)}{vs:List (κ×Value)}(r:KV kvs vs):(!vs.isEmpty)= !kvs.isEmpty:=by
 cases r <;> rfl
theorem al_1{xs:List V}{its:List Value}(r:Vals xs its):(!its.toArray.isEmpty)= !xs.isEmpty:=by
 cases r <;> simp
theorem ae_4:(sizeLine:Nat) < 2 ^ 63:=by rw [sizeLine_eq];decide
theorem cp_8:TruR X (fun x H Q=>∃k,TruV X.K x H k∧Q k H):=by
 intro zd s σ H x v Q I rx h
 obtain⟨k,e,q⟩:=h
 have hl:=ae_4
 have hs:sizeLine=16777216:=sizeLine_eq
 cases x with
 |non=>
  cases rx
  have e':k=false:=e
  subst e'
  exact truthy_none ⟨H,I,q⟩
 |bl b=>
  cases rx
  have e':k=b:=e
  subst e'
  exact wpAny_truthy_bool ⟨H,I,q⟩
 |int i=>
  obtain⟨t,rfl⟩:=rx
  have e':k=(i != 0):=e
  subst e'
  exact PySem.P.truthy_int ⟨H,I,q⟩
 |str y=>
  obtain⟨t,rfl⟩:=rx
  obtain⟨hy,e'⟩:y.length≤sizeLine∧k=((y.length:Int) != 0):=e
  subst e'
  exact PySem.P.truthy_str (by omega) ⟨H,I.tok _,q⟩
 |byt y=>
  obtain⟨t,rfl⟩:=rx
  obtain⟨hy,e'⟩:y.size≤sizeLine∧k=((y.size:Int) != 0):=e
  subst e'
  exact truthy_bytes (by omega) ⟨H,I.tok _,q⟩
 |ref p=>
  cases rx
  have e':(∃xs,SqL X.K H p xs∧k= !xs.isEmpty)∨(∃xs,SqT X.K H p xs∧k= !xs.isEmpty)∨∃kvs,H p=some (.dK kvs)∧k= !kvs.isEmpty:=e
  rcases e' with⟨xs,hx,e'⟩|⟨xs,hx,e'⟩|⟨kvs,hx,e'⟩
  ·subst e'
   obtain⟨its,r,pl,hz⟩:=I.list hx
   have zk:=r.length
   exact wpAny_truthy_list pl.isList (by simp only [List.size_toArray];omega) ⟨H,I.tok _,by rw [al_1 r];exact q⟩
  ·subst e'
   obtain⟨its,r,pl,hz⟩:=I.tuple hx
   have zk:=r.length
   exact truthy_tuple pl (by simp only [List.size_toArray];omega) ⟨H,I.tok _,by rw [al_1 r];exact q⟩
  ·subst e'
   obtain⟨hz,hS,vs,r,m⟩:kvs.length≤sizeLine∧(p ==sysModules)=false∧∃vs,KV kvs vs∧s.heap.DictOf (i_1 X.prog X.w) p vs:=I.hok p _ hx
   have zk:kvs.length=vs.length:=Paired.length r
   exact wpAny_truthy_dict hS m (by omega) ⟨H,I.tok _,by rw [bi_3 r];exact q⟩
 |_=>exact(show False from e).elim
theorem bv_9(ha:PE X a ta)(he:∀whole,isTrue a X.env whole=(do let v←whole;standAt a.pos;holding [v] (truthy v))):
  PT X a (fun σ H Q=>ta σ H fun x H'=>∃k,TruV X.K x H' k∧Q k H'):=by
 intro zd s σ H Q I h
 exact isTrue_plain (thn (ha zd s σ H _ I h) fun v s1 ⟨x,H1,I1,r1,q1⟩=>cp_8 zd s1 σ H1 x v Q I1 r1 q1) (he _)
theorem bi_4:OpR X (binaryOp .Add) (fun x y H Q=>∃i j,x= .str i∧y= .str j∧i.length + j.length≤sizeLine∧Q (.str (i ++ j)) H):=by
 intro zd s σ H x y v u Q I rx ry h
 obtain⟨i,j,rfl,rfl,hz,q⟩:=h
 obtain⟨t,rfl⟩:=rx
 obtain⟨t',rfl⟩:=ry
 exact add_str (fun t' tk=>⟨.str (i ++ j),H,I.tok _,⟨_,rfl⟩,q⟩) hz
theorem bb_4{x:V}{us:List Value}(r:Vals [x] us):∃u,us= [u]∧RelV x u:=by
 cases r with
 |cons r1 r2=>cases r2;exact⟨_,rfl,r1⟩
theorem cm_2{x y:V}{us:List Value}(r:Vals [x,y] us):∃u w',us= [u,w']∧RelV x u∧RelV y w':=by
 cases r with
 |cons r1 r2=>
  cases r2 with
  |cons r3 r4=>cases r4;exact⟨_,_,rfl,r1,r3⟩
theorem br_3(hc:X.calm=true):y_6 X (.builtin "max") (fun xs H Q=>∃i j,xs= [.int i, .int j]∧Q (.int (if j > i then j else i)) H):=by
 intro zd s σ H xs us Q I r h
 obtain⟨i,j,rfl,q⟩:=h
 obtain⟨u,w',rfl,⟨t,rfl⟩,⟨t',rfl⟩⟩:=cm_2 r
 refine max_two_ints (I.ok.hd hc) fun h' tk k=>⟨_,H,I.kept k, ?_,q⟩
 by_cases hj:j > i
 ·rw [if_pos hj,if_pos hj];exact⟨_,rfl⟩
 ·rw [if_neg hj,if_neg hj];exact⟨_,rfl⟩
theorem br_4(hc:X.calm=true):y_6 X (.builtin "min") (fun xs H Q=>∃i j,xs= [.int i, .int j]∧Q (.int (if j < i then j else i)) H):=by
 intro zd s σ H xs us Q I r h
 obtain⟨i,j,rfl,q⟩:=h
 obtain⟨u,w',rfl,⟨t,rfl⟩,⟨t',rfl⟩⟩:=cm_2 r
 refine min_two_ints (I.ok.hd hc) fun h' tk k=>⟨_,H,I.kept k, ?_,q⟩
 by_cases hj:j < i
 ·rw [if_pos hj,if_pos hj];exact⟨_,rfl⟩
 ·rw [if_neg hj,if_neg hj];exact⟨_,rfl⟩
theorem ar_6:y_6 X (.type "int") (fun xs H Q=>(∃i,xs= [.int i]∧Q (.int i) H)∨∃k,xs= [.bl k]∧Q (.int (if k then 1 else 0)) H):=by
 intro zd s σ H xs us Q I r h
 rcases h with⟨i,rfl,q⟩|⟨k,rfl,q⟩
 ·obtain⟨u,rfl,t,rfl⟩:=bb_4 r
  exact call_int_int ⟨.int i,H,I,⟨_,rfl⟩,q⟩
 ·obtain⟨u,rfl,r1⟩:=bb_4 r
  cases r1
  exact call_int_bool ⟨.int (if k then 1 else 0),H,I.tok _,⟨_,rfl⟩,q⟩
end
structure ObjM(h:Heap)(x dx C:Addr)(mA:Str→Option Value):Prop where
 obj:h.get? x=some (instObj C dx)
 ns:h.Ns1 dx mA
 ne:dx≠x
theorem ar_7{h:Heap}{dx:Addr}{mA:Str→Option Value}(n:h.Ns1 dx mA):∃od,h.get? dx=some od∧∀name,lookIn name od=some (mA name):=by
 obtain⟨o,es,ep,ho,hd,hk,_,hm⟩:=n
 refine⟨o,ho,fun name=> ?_⟩
 have e:=hm name
 unfold nsFind findBy at e
 rw [←Array.find?_toList] at e
 unfold lookIn
 rw [hd]
 dsimp only
 split
 ·rename_i y q
  rw [q] at e
  exact congrArg some e
 ·rename_i q
  rw [q] at e
  have a:es.toList.any (·.refKey)=false:=by
   rw [List.any_eq_false]
   intro y hy
   obtain⟨z,t,di⟩:=hk y (Array.mem_toList_iff.mp hy)
   simp [DictEntry.refKey,di]
  have a':¬es.toList.any (·.refKey)=true:=by rw [a];exact Bool.false_ne_true
  rw [if_neg a']
  exact congrArg some e
theorem ObjM.look{h:Heap}{x dx C:Addr}{mA:Str→Option Value}(I:ObjM h x dx C mA):∃od,InstAt h x (instObj C dx) C (some od)∧∀name,lookIn name od=some (mA name):=
 let⟨od,ho,hl⟩:=ar_7 I.ns
 ⟨od,⟨I.obj,rfl,rfl,ho⟩,hl⟩
section
variable{prog:Program}{w:World}{A:Around}{E:Value→Shared→Prop}{s:Shared}{K:Frag}{x dx C f:Addr}{mA:Str→Option Value}{name:Str}{v:Value}
theorem cf_2{expr:Bool}{Q:Value→Shared→Prop}(X:K.In s.heap)(I:ObjM s.heap x dx C mA)(hg:plainGet K C name=true)(hh:hasDictIn K C=true)
  (ha:findIn K (.ref C) name=some none) (hv:mA name=some v) (hv':handedIn v=true) (h:Q v {s with toks:=s.toks + 1}):
  wpAny (model prog w) A (getAttr (.ref x) name expr) Q E s:=by
 obtain⟨od,J,hl⟩:=I.look
 exact get_value X J (plainGet_of hg).1 (findObj_own hh ha rfl (by rw [hl,hv])) hv' h
theorem bw_0{pl:Sem Bool}{Q:Value×List Value→Shared→Prop}(X:K.In s.heap)(I:ObjM s.heap x dx C mA)(hg:plainGet K C name=true)
  (hf:findIn K (.ref C) name=some (some (.ref f))) (ht:isFn K (.ref f)=true) (hv:mA name=none) (h:Q (.ref f, [.ref x]) s):
  wpAny (model prog w) A (getMethod (.ref x) name pl) Q E s:=by
 obtain⟨od,J,hl⟩:=I.look
 exact method_fn X J (plainGet_of hg).1 (plainGet_of hg).2 hf (beq_iff_eq.mp ht) (by show(lookIn name od).map (·.isSome)=some false;rw [hl,hv];rfl) h
theorem cf_3{ns:List Str}{Q:Unit→Shared→Prop}(X:K.In s.heap)(I:ObjM s.heap x dx C mA)
  (hs:findIn K (.ref C) "__setattr__" =some (some (.builtin "object.__setattr__"))) (hp:plainOver K C=true) (ht:takerIn K C name=some none) (hh:hasDictIn K C=true)
  (hw:PySem.Within mA ns) (hsz:ns.length≤sizeLine)
  (h:∀h',ObjM h' x dx C (fun y=>if y=name then some v else mA y)→Heap.SameBut dx s.heap h'→Q () {s with heap:=h',toks:=s.toks + 2}):
  wpAny (model prog w) A (setAttr (.ref x) name v) Q E s:=by
 obtain⟨od,J,hl⟩:=I.look
 refine set_plain X J hs (osa_open (s:={s with toks:=s.toks + 1}) (r:=none) X J hp ht fun b=> ?_)
 obtain⟨cd,hc,hd'⟩:=any_some hh
 have hx:s.heap.get? x=some ⟨.ref C,some dx, .plain, #[]⟩:=I.obj
 refine wpAny_bind (wpAny_pure (wpAny_bind (wpAny_bind (wpAny_loadPart hx (wpAny_bind (Looks.here (s:={s with toks:=s.toks + 1}) (looks_clsIn X hc) ?_))))))
 rw [hd']
 refine wpAny_pure (a:=some dx) (wpAny_bind (wpAny_pure (wpAny_bind ?_)))
 refine wpAny_nsSet1 (s:={s with toks:=s.toks + 1}) I.ns fun h' hn2 hs2=> ?_
 obtain⟨oD,esD,epD,hoD,hdD,hcD⟩:=hn2.count (PySem.Within.cons name v hw)
 refine wpAny_bind (wpAny_lookBehind hoD (by rw [hdD];exact pastItsLine_dict (Nat.le_trans hcD (by rw [List.length_cons];omega))) ?_)
 exact wpAny_pure (h _ ⟨(hs2.2 _ (Ne.symm I.ne)).trans I.obj,hn2,I.ne⟩ hs2)
theorem bw_1{R:Result→Shared→Prop}{vs:List Value}{kw:List (Str×Value)}(X:K.In s.heap)(hm:makesIn K C=true)
  (hi:findIn K (.ref C) "__init__" =some (some (.ref f))) (hf:typeIn K (.ref f)=some (.type "function"))
  (h:codeAny (model prog w) (A.under (.builtin "type.__call__" ⟨.ref C::vs,kw⟩)) (.call (.ref f) ⟨.ref (s.heap.objs.size + 1)::vs,kw⟩) (InitBack (s.heap.objs.size + 1) R)
   {s with heap:=(s.heap.push emptyDict).push (instObj C s.heap.objs.size)}):
  codeAny (model prog w) A (.call (.ref C) ⟨vs,kw⟩) R s:=by
 obtain⟨hh,g,d,t,os⟩:=s
 exact make_core (makes_of X hm) (looks_findIn X hi) (fun self=>bind_fn X self hf) (.inl rfl) h
end
def u_0(f:Str)(v:V):List (Str×V)→List (Str×V)
 | []=> [(f,v)]
 |(g,x)::r=>if g=f then(g,v)::r else(g,x)::u_0 f v r
theorem ag_9(f g:Str)(v:V):∀fs:List (Str×V),(u_0 f v fs).lookup g=if g=f then some v else fs.lookup g
 | []=>by
  show List.lookup g [(f,v)]=_
  by_cases h:g=f
  ·have hb:(g ==f)=true:=beq_iff_eq.mpr h
   simp only [List.lookup,hb,if_pos h]
  ·have hb:(g ==f)=false:=beq_eq_false_iff_ne.mpr h
   simp only [List.lookup,hb,if_neg h]
 |(k,x)::r=>by
  have ih:=ag_9 f g v r
  rw [show u_0 f v ((k,x)::r)=(if k=f then(k,v)::r else(k,x)::u_0 f v r) from rfl]
  by_cases hk:k=f
  ·rw [if_pos hk]
   by_cases h:g=k
   ·have hb:(g ==k)=true:=beq_iff_eq.mpr h
    simp only [List.lookup,hb,if_pos (h.trans hk)]
   ·have hb:(g ==k)=false:=beq_eq_false_iff_ne.mpr h
    simp only [List.lookup,hb,if_neg (fun e:g=f=>h (e.trans hk.symm))]
  ·rw [if_neg hk]
   by_cases h:g=k
   ·have hb:(g ==k)=true:=beq_iff_eq.mpr h
    simp only [List.lookup,hb,if_neg (fun e:g=f=>hk (h.symm.trans e))]
   ·have hb:(g ==k)=false:=beq_eq_false_iff_ne.mpr h
    simp only [List.lookup,hb]
    exact ih
theorem ae_5(f:Str)(v:V):∀fs:List (Str×V),f∈(u_0 f v fs).map (·.1)∧∀g,g∈fs.map (·.1)→g∈(u_0 f v fs).map (·.1)
 | []=>⟨by simp [u_0],fun g h=>by simp at h⟩
 |(k,x)::r=>by
  obtain⟨i1,i2⟩:=ae_5 f v r
  rw [show u_0 f v ((k,x)::r)=(if k=f then(k,v)::r else(k,x)::u_0 f v r) from rfl]
  by_cases hk:k=f
  ·rw [if_pos hk]
   subst hk
   exact⟨by simp,fun g h=>by simpa using h⟩
  ·rw [if_neg hk]
   refine⟨?_,fun g h=> ?_⟩
   ·rw [List.map_cons]
    exact List.mem_cons_of_mem _ i1
   ·rw [List.map_cons] at h⊢
    rcases List.mem_cons.mp h with e|e
    ·exact List.mem_cons.mpr (.inl e)
    ·exact List.mem_cons_of_mem _ (i2 g e)
theorem ah_0(f:Str)(v:V):∀fs:List (Str×V),(u_0 f v fs).length≤fs.length + 1
 | []=>by simp [u_0]
 |(k,x)::r=>by
  have ih:=ah_0 f v r
  rw [show u_0 f v ((k,x)::r)=(if k=f then(k,v)::r else(k,x)::u_0 f v r) from rfl]
  by_cases hk:k=f
  ·rw [if_pos hk,List.length_cons,List.length_cons];omega
  ·rw [if_neg hk,List.length_cons,List.length_cons];omega
theorem RelO.some_of{v:V}{o:Option Value}(r:RelO (some v) o):∃u,o=some u∧RelV v u:=by
 cases o with
 |none=>exact(show False from r).elim
 |some u=>exact⟨u,rfl,r⟩
theorem RelO.none_of{o:Option Value}(r:RelO none o):o=none:=by
 cases o with
 |none=>rfl
 |some u=>exact(show False from r).elim
theorem ar_8{v:V}{u:Value}(r:RelV v u):handedIn u=true:=by
 cases v with
 |non=>cases(show u=Value.none from r);rfl
 |bl b=>cases(show u=Value.bool b from r);rfl
 |int i=>obtain⟨t,e⟩:=(show∃t,u=Value.int i t from r);cases e;rfl
 |str x=>obtain⟨t,e⟩:=(show∃t,u=Value.str x t from r);cases e;rfl
 |byt b=>obtain⟨t,e⟩:=(show∃t,u=Value.bytes b t from r);cases e;rfl
 |flt b=>obtain⟨t,e⟩:=(show∃t,u=Value.float b t from r);cases e;rfl
 |ref a=>cases(show u=Value.ref a from r);rfl
 |ty n=>cases(show u=Value.type n from r);rfl
section
variable{P:Program}{w:World}{H H':Hp}{h h':Heap}{a C dx:Addr}{fs fs':List (Str×V)}
theorem av_1(hok:HOk P w H h)(e:H a=some (.ins C dx fs)):∃mA,ObjM h a dx C mA∧(∀f,RelO (fs.lookup f) (mA f))∧PySem.Within mA (fs.map (·.1))∧fs.length≤1000∧H dx=some (.own a):=by
 obtain⟨d,z,ne,ob,mA,n,r,q⟩:=(show ObjOk P w H h a (.ins C dx fs) from hok a _ e)
 exact⟨mA,⟨ob,n,ne⟩,r,q,z,d⟩
end
structure Cls(K:Frag)(C:Addr):Prop where
 pg:plainGet K C Str.empty=true
 hd:hasDictIn K C=true
 po:plainOver K C=true
 sa:findIn K (.ref C) "__setattr__" =some (some (.builtin "object.__setattr__"))
theorem Cls.get{K:Frag}{C:Addr}(c:Cls K C)(f:Str):plainGet K C f=true:=c.pg
def NoAttr(K:Frag)(C:Addr)(f:Str):Prop:=findIn K (.ref C) f=some none
theorem NoAttr.taker{K:Frag}{C:Addr}{f:Str}(n:NoAttr K C f):takerIn K C f=some none:=by
 unfold takerIn
 rw [show findIn K (.ref C) f=some none from n]
 rfl
structure Con(K:Frag)(C:Addr)(f:Str)(v:V)(u:Value):Prop where
 at_:findIn K (.ref C) f=some (some u)
 rel:RelV v u
 get:specialIn K u "__get__" =some none
 cp:PySem.W.copiedNames.contains f=false
structure Meth(K:Frag)(C:Addr)(m:Str)(f:Addr):Prop where
 at_:findIn K (.ref C) m=some (some (.ref f))
 fn:isFn K (.ref f)=true
 kp:keepIn K (.ref f)=true
section
variable{X:Cx}{zd:List (Addr×Obj)}{σ:St}{H:Hp}{s:Shared}{a C dx:Addr}{fs:List (Str×V)}{f:Str}{v:V}{A:Around}{E:Value→Shared→Prop}
theorem bi_5{b:Bool}{Q:Value→Shared→Prop}(I:Inv X zd σ H s)(e:H a=some (.ins C dx fs))(c:Cls X.K C)(n:NoAttr X.K C f)(l:fs.lookup f=some v)
  (h:∀u s',Inv X zd σ H s'→RelV v u→Q u s'):wpAny (model X.prog X.w) A (getAttr (.ref a) f b) Q E s:=by
 obtain⟨mA,O,r,_,_,_⟩:=av_1 I.hok e
 obtain⟨u,hu,ru⟩:=RelO.some_of (v:=v) (o:=mA f) (by rw [←l];exact r f)
 exact cf_2 I.kIn O (c.get f) c.hd n hu (ar_8 ru) (h u _ (I.tok _) ru)
theorem al_2{m:Str}{g:Addr}{pl:Sem Bool}{Q:Value×List Value→Shared→Prop}(I:Inv X zd σ H s)(e:H a=some (.ins C dx fs))(c:Cls X.K C)(k:Meth X.K C m g)(l:fs.lookup m=none)
  (h:Q (.ref g, [.ref a]) s):wpAny (model X.prog X.w) A (getMethod (.ref a) m pl) Q E s:=by
 obtain⟨mA,O,r,_,_,_⟩:=av_1 I.hok e
 have hn:mA m=none:=RelO.none_of (by rw [←l];exact r m)
 exact bw_0 I.kIn O (c.get m) k.at_ k.fn hn h
theorem bi_6{y:V}{u:Value}{Q:Unit→Shared→Prop}(I:Inv X zd σ H s)(e:H a=some (.ins C dx fs))(c:Cls X.K C)(n:NoAttr X.K C f)(hl:fs.length < 1000)(ry:RelV y u)
  (h:∀s',Inv X zd σ (upd H a (.ins C dx (u_0 f y fs))) s'→Q () s'):wpAny (model X.prog X.w) A (setAttr (.ref a) f u) Q E s:=by
 obtain⟨mA,O,r,wi,_,ho⟩:=av_1 I.hok e
 have hz:(fs.map (·.1)).length≤sizeLine:=by rw [List.length_map,sizeLine_eq];omega
 refine cf_3 I.kIn O c.sa c.po n.taker c.hd wi hz fun h' O' sb=>h _ ?_
 have hd:∃o,h'.get? dx=some o:=let⟨o,_,_,e',_⟩:=O'.ns;⟨o,e'⟩
 refine I.write (x:=a) (e:=dx) (by rw [e];exact True.intro) (.inr ho) (fun b q hb z=>(sb.2 b hb).trans z) hd ?_
 refine⟨by rw [b_0 O.ne];exact ho, ?_,O.ne,O'.obj,_,O'.ns,fun g=> ?_,fun g hg=> ?_⟩
 ·have:=ah_0 f y fs;omega
 ·show RelO ((u_0 f y fs).lookup g) (if g=f then some u else mA g)
  rw [ag_9]
  by_cases q:g=f
  ·rw [if_pos q,if_pos q];exact ry
  ·rw [if_neg q,if_neg q];exact r g
 ·by_cases q:g=f
  ·rw [q];exact(ae_5 f y fs).1
  ·refine(ae_5 f y fs).2 g (wi g fun z=>hg ?_)
   show(if g=f then some u else mA g)=none
   rw [if_neg q];exact z
theorem Inv.made(I:Inv X zd σ H s):Inv X zd σ (upd (upd H s.heap.objs.size (.own (s.heap.objs.size + 1))) (s.heap.objs.size + 1) (.ins C s.heap.objs.size []))
  {s with heap:=(s.heap.push emptyDict).push (instObj C s.heap.objs.size)}:=by
 have e1:(s.heap.push emptyDict).get? s.heap.objs.size=some emptyDict:=Heap.get?_push_size s.heap rfl
 have e2:((s.heap.push emptyDict).push (instObj C s.heap.objs.size)).get? (s.heap.objs.size + 1)=some (instObj C s.heap.objs.size):=by
  have:=Heap.get?_push_size (s.heap.push emptyDict) (o:=instObj C s.heap.objs.size) rfl
  rwa [Heap.size_push] at this
 have e3:(s.heap.push emptyDict).Ns s.heap.objs.size (fun _=>none):=⟨emptyDict, #[],_,e1,rfl,(fun e he=>absurd he (by simp)),fun _=>rfl⟩
 have I1:=I.laid (a:=s.heap.objs.size) (o:= .own (s.heap.objs.size + 1)) (h':=s.heap.push emptyDict) (t':=s.toks) (fun b u q=>Heap.get?_push_of_some _ q) (Nat.le_refl _) ⟨_,e1⟩
 refine I1.laid (a:=s.heap.objs.size + 1) (o:= .ins C s.heap.objs.size []) (t':=s.toks) (fun b u q=>Heap.get?_push_of_some _ q) (Nat.le_of_eq (Heap.size_push _ _)) ?_
 have ne:s.heap.objs.size≠s.heap.objs.size + 1:=Nat.ne_of_lt (Nat.lt_succ_self _)
 refine⟨by rw [b_0 ne,b_6],Nat.zero_le _,ne,e2,fun _=>none,(Heap.Ns1.of_empty e3).at fun o q=>Heap.get?_push_of_some _ q,fun _=>True.intro,fun y hy=>absurd rfl hy⟩
theorem bm_8{prog:Program}{w:World}{env:Env}{e:Expr}{f:Str}{pos:Pos}{s:Shared}{Q:Value→Shared→Prop}(hb:attributeBase e f env (eval e env)=eval e env)
  (h:wpAny (model prog w) A (eval e env) (fun o s₁=>wpAny (model prog w) A (getAttr o f true) Q E s₁) E s):wpAny (model prog w) A (eval (.Attribute e f pos) env) Q E s:=
 Attribute_any_ h (by rw [arm_eval_Attribute,hb])
end
def tFld(K:Frag)(ta:TE)(f:Str):TE:=fun σ H Q=>ta σ H fun x H1=>∃a C dx fs v,x= .ref a∧H1 a=some (.ins C dx fs)∧Cls K C∧NoAttr K C f∧fs.lookup f=some v∧Q v H1
def sFld(K:Frag)(ta tv:TE)(f:Str):TS:=fun D σ H=>tv σ H fun y H1=>ta σ H1 fun x H2=>∃a C dx fs,x= .ref a∧H2 a=some (.ins C dx fs)∧Cls K C∧NoAttr K C f∧fs.length < 1000∧
 D.nx σ (upd H2 a (.ins C dx (u_0 f y fs)))
section
variable{X:Cx}{o e value:Expr}{f:Str}{pos pos' zi:Pos}{ta tv:TE}
theorem cp_9(he:PE X e ta)(hb:attributeBase e f X.env (eval e X.env)=eval e X.env):PE X (.Attribute e f pos) (tFld X.K ta f):=by
 intro zd s σ H Q I h
 refine bm_8 hb (thn (he zd s σ H _ I h) fun u s1 ⟨x,H1,I1,rx,a,C,dx,fs,v,ex,ea,c,n,l,q⟩=> ?_)
 subst ex
 obtain rfl:u=Value.ref a:=rx
 exact bi_5 I1 ea c n l fun u' s2 I2 ru=>⟨v,H1,I2,ru,q⟩
theorem cq_0(ha:PE X o ta)(hv:PE X value tv)(hs:swapsWith value (some (.Attribute o f pos')) pos.line X.env=pure false):PS X (.Assign [.Attribute o f pos'] value pos) (sFld X.K ta tv f):=by
 intro zd s σ H D I h
 refine plainObj_wpAny_Assign_Attribute (thn (hv zd s σ H _ I h) fun u s1 ⟨y,H1,I1,ry,q⟩=>thn (ha zd s1 σ H1 _ I1 q) fun ov s2 ⟨x,H2,I2,rx,a,C,dx,fs,ex,ea,c,n,l,q2⟩=> ?_) hs
 subst ex
 obtain rfl:ov=Value.ref a:=rx
 exact bi_6 I2 ea c n l ry fun s3 I3=>⟨σ,_,I3,q2⟩
end
section
variable{X:Cx}{zd:List (Addr×Obj)}{σ:St}{H:Hp}{s:Shared}{A:Around}{E:Value→Shared→Prop}{Q:Value→Shared→Prop}{c:Value}{b:Bool}
inductive TyOf(K:Frag)(H:Hp):V→Value→Prop where
 |non:TyOf K H .non (.type "NoneType")
 |bl (x:Bool):TyOf K H (.bl x) (.type "bool")
 |int (i:Int):TyOf K H (.int i) (.type "int")
 |str (x:Str):TyOf K H (.str x) (.type "str")
 |flt (x:UInt64):TyOf K H (.flt x) (.type "float")
 |lst {a:Addr} {xs:List V} (e:H a=some (.lst xs)):TyOf K H (.ref a) (.type "list")
 |frz {a:Addr} {o:Obj} {xs:List V} (e:H a=some (.frz o (.lst xs))):TyOf K H (.ref a) (.type "list")
 |tup {a:Addr} {xs:List V} (e:H a=some (.tup xs)):TyOf K H (.ref a) (.type "tuple")
 |dK {a:Addr} {kvs:List (Key×V)} (e:H a=some (.dK kvs)):TyOf K H (.ref a) (.type "dict")
 |dT {a:Addr} {kvs:List (List Key×V)} (e:H a=some (.dT kvs)):TyOf K H (.ref a) (.type "dict")
 |ins {a C dx:Addr} {fs:List (Str×V)} (e:H a=some (.ins C dx fs)) (cl:Cls K C) (ha:findIn K (.ref C) "__class__" =some (some (.builtin "object.__class__")))
   (hn:specialIn K (.builtin "object.__class__") "__get__" =some (some (.builtin "getset_descriptor.__get__"))) (htk:takesIn K (.builtin "object.__class__")=some true)
   (hm:mroIn K C (.type "object")=some true):TyOf K H (.ref a) (.ref C)
end
structure Room(k:Nat)(A:Around):Prop where
 hd:A.handled=none
 dp:A.depth + 3 * k + 5 < recursionLimit
 un:A.units + 16 * k + 200 < cLine
theorem Room.mono{j k:Nat}{A:Around}(r:Room k A)(h:j≤k):Room j A:=⟨r.hd,by have:=r.dp;omega,by have:=r.un;omega⟩
theorem Room.deeper{k:Nat}{A:Around}(r:Room (k + 1) A)(env:Env):Room k (A.deeper env):=
 ⟨r.hd,by have:=r.dp;show A.depth + 1 + 3 * k + 5 < _;omega,by have:=r.un;show A.units + 3 + 16 * k + 200 < _;omega⟩
theorem Room.in1{k:Nat}{A:Around}(r:Room (k + 1) A):Room k A.in1:=
 ⟨r.hd,by have:=r.dp;show A.depth + 3 * k + 5 < _;omega,by have:=r.un;show A.units + 1 + 16 * k + 200 < _;omega⟩
theorem al_3{A:Around}{C:Addr}{us:List Value}{kw:List (Str×Value)}:(A.under (.builtin "type.__call__" ⟨.ref C::us,kw⟩)).depth=A.depth + 1:=by
 first|rfl|simp [Around.under,Code.weight,Code.isCreation,Code.isGuard,Code.isCaller,Code.frames,Code.isFrame,guardIds]
theorem al_4{A:Around}{C:Addr}{us:List Value}{kw:List (Str×Value)}:(A.under (.builtin "type.__call__" ⟨.ref C::us,kw⟩)).units=A.units + 1:=by
 first|rfl|simp [Around.under,Code.cUnits,Code.frames,Code.isFrame]
theorem Room.make{k:Nat}{A:Around}(r:Room (k + 1) A)(C:Addr)(us:List Value)(kw:List (Str×Value)):Room k (A.under (.builtin "type.__call__" ⟨.ref C::us,kw⟩)):=
 ⟨r.hd,by have:=r.dp;rw [al_3];omega,by have:=r.un;rw [al_4];omega⟩
theorem Room.depth{k:Nat}{A:Around}(r:Room k A):A.depth < recursionLimit:=by have:=r.dp;omega
theorem Room.units{k:Nat}{A:Around}(r:Room k A):A.units + 64 < cLine:=by have:=r.un;omega
def tNil:TA:=fun _ H Q=>Q [] H
def cw_0(ta:TE)(tr:TA):TA:=fun σ H Q=>ta σ H fun x H1=>tr σ H1 fun xs H2=>Q (x::xs) H2
section
variable{X:Cx}{e:Expr}{es:List Expr}{te:TE}{t:TA}{pos:Pos}
theorem z_8:PA X [] tNil:=fun _ _ _ _ H Q I h=>Calls.spliced_nil ⟨[],H,I, .nil,h⟩
theorem o_9(ha:PE X e te)(hr:PA X es t)(hs:starEach (e::es) X.env=(false,eval e X.env)::starEach es X.env:=by rfl):PA X (e::es) (cw_0 te t):=by
 intro pos zd s σ H Q I h
 rw [hs]
 show wpAny _ _ (spliced ((false,eval e X.env)::backTo pos (starEach es X.env))) _ _ s
 refine Calls.spliced_cons (thn (ha zd s σ H _ I h) fun u s1 ⟨x,H1,I1,r1,q1⟩=> ?_)
 exact thn (hr pos zd s1 σ H1 _ I1 q1) fun us s2 ⟨xs,H2,I2,r2,q2⟩=>⟨x::xs,H2,I2, .cons r1 r2,q2⟩
def tTup(t:TA):TE:=fun σ H Q=>t σ H fun xs H1=>xs.length≤sizeLine∧∀p,H1 p=none→Q (.ref p) (upd H1 p (.tup xs))
def tLst(t:TA):TE:=fun σ H Q=>t σ H fun xs H1=>xs.length≤sizeLine∧∀p,H1 p=none→Q (.ref p) (upd H1 p (.lst xs))
theorem cq_1{x1}(h:PA X es t):PE X (.Tuple es x1 pos) (tTup t):=by
 intro zd s σ H Q I hq
 refine wpAny_Tuple_spliced (thn (h pos zd s σ H _ I hq) fun us s1 ⟨xs,H1,I1,r,z,q⟩=>⟨by rw [←r.length];exact z, ?_⟩)
 have hf:H1 s1.heap.objs.size=none:=I1.hok.fresh (Nat.le_refl _)
 refine⟨.ref s1.heap.objs.size,upd H1 s1.heap.objs.size (.tup xs),I1.laid (t':=s1.toks) (fun b u e=>Heap.get?_push_of_some _ e) (Nat.le_refl _) ?_,rfl,q _ hf⟩
 exact⟨z,us,r,⟨_,Heap.get?_push_size _ rfl,rfl,_,rfl⟩⟩
theorem cq_2(h:PA X es t):PE X (.List es pos) (tLst t):=by
 intro zd s σ H Q I hq
 refine wpAny_List_spliced (thn (h pos zd s σ H _ I hq) fun us s1 ⟨xs,H1,I1,r,z,q⟩=>⟨by rw [←r.length];exact z, ?_⟩)
 have hf:H1 s1.heap.objs.size=none:=I1.hok.fresh (Nat.le_refl _)
 refine⟨.ref s1.heap.objs.size,upd H1 s1.heap.objs.size (.lst xs),I1.laid (t':=s1.toks) (fun b u e=>Heap.get?_push_of_some _ e) (Nat.le_refl _) ?_,rfl,q _ hf⟩
 exact⟨z,us,0,r,Heap.get?_push_size _ rfl⟩
end
abbrev Sp:=List V→Hp→VK→XK→Prop
abbrev CXT:=List Env→Hp→Shared→XK→Value→Shared→Prop
structure Env0(P:Program)(w:World)(K:Frag)(mg:Str→Option Value)(base:Heap)(A:Around)(outer:List Env)(s:Shared)(H:Hp):Prop where
 frames:A.frames=some outer
 mod:Mod K mg base
 bs:∀b o,base.get? b=some o→s.heap.get? b=some o∧H b=none
 bsz:base.objs.size≤s.heap.objs.size
 funs:s.heap.FunFrames base outer
 frf:∀b∈frs outer,H b=none
 hok:HOk P w H s.heap
 bare:AllBare s.gens
def CE(outer:List Env)(P:Program)(w:World)(H:Hp)(s:Shared)(Q:VK)(u:Value)(s':Shared):Prop:=
 ∃v H',s'.os=s.os∧AllBare s'.gens∧Un (frs outer) [] H H' s.heap s'.heap∧HOk P w H' s'.heap∧RelV v u∧Q v H'
def CR(CX:CXT)(outer:List Env)(P:Program)(w:World)(H:Hp)(s:Shared)(Q:VK)(E:XK)(r:Result)(s':Shared):Prop:=
 match r with
 | .ok (.ret u)=>CE outer P w H s Q u s'
 | .ok _=>False
 | .error e=>CX outer H s E e s'
structure FnOk(P:Program)(w:World)(K:Frag)(mg:Str→Option Value)(base:Heap)(CX:CXT)(k:Nat)(f:Addr)(fd:FuncData)(ps:List Str)(sp:Sp):Prop where
 len:∀vs H Q E,sp vs H Q E→vs.length=ps.length
 run:∀(A:Around) (outer:List Env) (s:Shared) (H:Hp) (args:Args) (us:List Value) (vs:List V) (Q:VK) (E:XK),Room k A→Env0 P w K mg base A outer s H→BindsTo s fd args (ps.zip us)→Vals vs us→sp vs H Q E→
  codeAny (model P w) A (.call (.ref f) args) (CR CX outer P w H s Q E) s
theorem FnOk.mono{P:Program}{w:World}{K:Frag}{mg:Str→Option Value}{base:Heap}{CX:CXT}{j k:Nat}{f:Addr}{fd:FuncData}{ps:List Str}{sp:Sp}(F:FnOk P w K mg base CX j f fd ps sp)(h:j≤k):
  FnOk P w K mg base CX k f fd ps sp:=⟨F.len,fun A outer s H args us vs Q E hr=>F.run A outer s H args us vs Q E (hr.mono h)⟩
theorem FnOk.imp{P:Program}{w:World}{K:Frag}{mg:Str→Option Value}{base:Heap}{CX:CXT}{k:Nat}{f:Addr}{fd:FuncData}{ps:List Str}{sp sp':Sp}(F:FnOk P w K mg base CX k f fd ps sp)
  (h:∀vs H Q E,sp' vs H Q E→sp vs H Q E):FnOk P w K mg base CX k f fd ps sp':=
 ⟨fun vs H Q E q=>F.len vs H Q E (h _ _ _ _ q),fun A outer s H args us vs Q E hr he hb hv hs=>F.run A outer s H args us vs Q E hr he hb hv (h _ _ _ _ hs)⟩
theorem Env0.make{P:Program}{w:World}{K:Frag}{mg:Str→Option Value}{base:Heap}{A:Around}{outer:List Env}{s:Shared}{H:Hp}(e:Env0 P w K mg base A outer s H)(C:Addr)(us:List Value)(kw:List (Str×Value)):
  Env0 P w K mg base (A.under (.builtin "type.__call__" ⟨.ref C::us,kw⟩)) outer s H:=⟨by first|exact e.frames|(simpa [Around.under,Code.envs,Code.isFrame,pushEnvs] using e.frames),e.mod,e.bs,e.bsz,e.funs,e.frf,e.hok,e.bare⟩
theorem Env0.in1{P:Program}{w:World}{K:Frag}{mg:Str→Option Value}{base:Heap}{A:Around}{outer:List Env}{s:Shared}{H:Hp}(e:Env0 P w K mg base A outer s H):
  Env0 P w K mg base A.in1 outer s H:=⟨e.frames,e.mod,e.bs,e.bsz,e.funs,e.frf,e.hok,e.bare⟩
section
variable{X:Cx}{zd:List (Addr×Obj)}{σ:St}{H:Hp}{s s':Shared}
theorem Inv.env0(I:Inv X zd σ H s):Env0 X.prog X.w X.K X.mg X.base X.A X.stack s H:=
 ⟨I.ok.frames,I.ok.mod,I.bs,Nat.le_trans I.ok.bsz I.sz,I.stack,I.stkFree,I.hok,I.bare⟩
theorem Inv.after{Q:VK}{u:Value}(I:Inv X zd σ H s)(h:CE X.stack X.prog X.w H s Q u s'):EP X zd σ Q u s':=by
 obtain⟨v,H',os,bare,un,hok,r,q⟩:=h
 obtain⟨hh,g,d,t,os'⟩:=s'
 obtain rfl:os'=s.os:=os
 exact⟨v,H',I.call (h':=hh) (g':=g) (d':=d) (t':=t) (ch:= []) un hok bare (fun b z=>absurd z (by simp)),r,q⟩
end
def Binds(K:Frag)(fd:FuncData)(ps:List Str)(ds:List Value):Prop:=
 ∀(s:Shared) (us:List Value),K.In s.heap→(us ++ ds).length=ps.length→BindsTo s fd ⟨us, []⟩ (ps.zip (us ++ ds))
theorem Binds.all{K:Frag}{fd:FuncData}{ps:List Str}(h:∀us:List Value,us.length=ps.length→bindArgs fd ⟨us, []⟩=pure (ps.zip us)):Binds K fd ps []:=fun s us _ hl=>by
 rw [List.append_nil] at hl⊢
 exact .of_eq (h us hl)
section
variable{X:Cx}{CX:CXT}{k:Nat}{f C:Addr}{fd:FuncData}{ps:List Str}{sp:Sp}{dvs:List V}{ds:List Value}{E:XK}{x m:Str}{p pos zh:Pos}{e o:Expr}{es:List Expr}{ta:TE}{t:TA}
structure Mk(K:Frag)(C f:Addr):Prop where
 makes:makesIn K C=true
 init:findIn K (.ref C) "__init__" =some (some (.ref f))
 fn:isFn K (.ref f)=true
 kp:keepIn K (.ref C)=true
end
section
variable{X:Cx}{CX:CXT}{k:Nat}{f C:Addr}{fd:FuncData}{ps ks:List Str}{sp:Sp}{E:XK}{x m:Str}{p pos zh fu:Pos}{e o:Expr}{es:List Expr}{kws:List Keyword}{te ta:TE}{t tk:TA}{nm:Option Str}
structure KBinds(K:Frag)(fd:FuncData)(ps ks:List Str)(g:List Value→List Value→List Value)(gV:List V→List V→List V):Prop where
 to:∀(s:Shared) (us ws:List Value),K.In s.heap→(g us ws).length=ps.length→BindsTo s fd ⟨us,ks.zip ws⟩ (ps.zip (g us ws))
 rel:∀{vs:List V} {us:List Value} {zs:List V} {ws:List Value},Vals vs us→Vals zs ws→Vals (gV vs zs) (g us ws)
variable{g:List Value→List Value→List Value}{gV:List V→List V→List V}
end
structure FnScope(N P:List Str)(sc:Scope):Prop where
 kind:sc.kind= .function
 co:sc.isCoroutine=false
 gen:sc.isGenerator=false
 nd:N.Nodup
 pre:N.take P.length=P
 par:∀x∈P,sc.names.lookup x=some .local∨sc.names.lookup x=some .cell
 nofree:∀y∈sc.names,y.2≠ .free
theorem ar_9{kindOf:Str→Option NameKind}{x:Str}:∀{binds:List (Str×Value)} {m:Str→Option Value},(∀v,(x,v)∉binds)→bindL kindOf binds m x=m x
 | [],_,_=>rfl
 |(n,v)::r,m,h=>by
  unfold bindL
  rw [ar_9 fun w hw=>h w (List.mem_cons_of_mem _ hw)]
  split
  ·have:x≠n:=by rintro rfl;exact h v List.mem_cons_self
   simp [this]
  ·rfl
theorem as_0{kindOf:Str→Option NameKind}{x:Str}:∀{binds:List (Str×Value)} {m:Str→Option Value},(∀v,(x,v)∉binds)→bindC kindOf binds m x=m x
 | [],_,_=>rfl
 |(n,v)::r,m,h=>by
  unfold bindC
  rw [as_0 fun w hw=>h w (List.mem_cons_of_mem _ hw)]
  split
  ·rfl
  ·have:x≠n:=by rintro rfl;exact h v List.mem_cons_self
   simp [this]
theorem as_1{kindOf:Str→Option NameKind}{x:Str}{v:Value}:∀{P:List Str} {vs:List Value} {i:Nat} {m:Str→Option Value},P.Nodup→P[i]? =some x→vs[i]? =some v→kindOf x=some .local→
  bindL kindOf (P.zip vs) m x=some v
 | [],_,_,_,_,h,_,_=>by simp at h
 |_::_, [],_,_,_,_,h,_=>by simp at h
 |p::P,w::vs,0,m,nd,h1,h2,hk=>by
  simp at h1 h2;subst h1;subst h2
  show bindL kindOf ((p,w)::P.zip vs) m p=_
  unfold bindL
  rw [ar_9 fun v hv=>(List.nodup_cons.mp nd).1 (List.of_mem_zip hv).1,if_pos hk]
  simp
 |p::P,w::vs,i + 1,m,nd,h1,h2,hk=>by
  show bindL kindOf ((p,w)::P.zip vs) m x=_
  unfold bindL
  exact as_1 (i:=i) (List.nodup_cons.mp nd).2 (by simpa using h1) (by simpa using h2) hk
theorem as_2{kindOf:Str→Option NameKind}{x:Str}{v:Value}:∀{P:List Str} {vs:List Value} {i:Nat} {m:Str→Option Value},P.Nodup→P[i]? =some x→vs[i]? =some v→kindOf x≠some .local→
  bindC kindOf (P.zip vs) m x=some v
 | [],_,_,_,_,h,_,_=>by simp at h
 |_::_, [],_,_,_,_,h,_=>by simp at h
 |p::P,w::vs,0,m,nd,h1,h2,hk=>by
  simp at h1 h2;subst h1;subst h2
  show bindC kindOf ((p,w)::P.zip vs) m p=_
  unfold bindC
  rw [as_0 fun v hv=>(List.nodup_cons.mp nd).1 (List.of_mem_zip hv).1,if_neg hk]
  simp
 |p::P,w::vs,i + 1,m,nd,h1,h2,hk=>by
  show bindC kindOf ((p,w)::P.zip vs) m x=_
  unfold bindC
  exact as_2 (i:=i) (List.nodup_cons.mp nd).2 (by simpa using h1) (by simpa using h2) hk
def h_7(N:List Str)(vs:List V):St:=vs.map some ++ List.replicate (N.length - vs.length) none
def z_9(CX:CXT)(P:Program)(w:World)(K:Frag)(mg:Str→Option Value)(base:Heap)(N:List Str)(qual:Str)(scope:Scope)(f:Addr)(cd:Value)(A:Around)(outer:List Env)(s:Shared)(H:Hp)(E:XK):Cx where
 prog:=P
 w:=w
 K:=K
 mg:=mg
 base:=base
 A:=A.deeper (envOfC qual scope s.heap.objs.size f cd)
 N:=N
 s₀:=s
 H₀:=H
 env:=envOfC qual scope s.heap.objs.size f cd
 outer:=outer
 stack:=envOfC qual scope s.heap.objs.size f cd::outer
 ex:= []
 calm:=true
 fn:=fun _=>true
 pn:= []
 xe:=fun e s'=>wpAny (model P w) (A.deeper (envOfC qual scope s.heap.objs.size f cd)) (leaving (envOfC qual scope s.heap.objs.size f cd) e) (fun _ s''=>CX outer H s E e s'') (fun e' s''=>CX outer H s E e' s'') s'
theorem bb_5{sc:Scope}{n:Nat}{x:Str}(h:sc.names.lookup x=some .cell):∃c,(cellsFrom n sc.names []).lookup x=some c:=by
 have q:=cellsFrom_some sc.names n [] (.inl h)
 exact Option.isSome_iff_exists.mp q
theorem as_3{CX:CXT}{P:Program}{w:World}{K:Frag}{mg:Str→Option Value}{base:Heap}{N ps:List Str}{qual:Str}{scope:Scope}{f:Addr}{cd:Value}{A:Around}{outer:List Env}{s s1:Shared}{H:Hp}{E:XK}{us:List Value}{vs:List V}
  (S:FnScope N ps scope) (hd:A.handled=none) (e0:Env0 P w K mg base A outer s H) (hl:vs.length=ps.length) (r:Vals vs us)
  (x:InCallC s s.heap.objs.size (bindL (envOfC qual scope s.heap.objs.size f cd).kindOf (ps.zip us) fun _=>none) (cellsFrom (s.heap.objs.size + 1) scope.names []) (bindC (envOfC qual scope s.heap.objs.size f cd).kindOf (ps.zip us) fun _=>none) s1):
  Inv (z_9 CX P w K mg base N qual scope f cd A outer s H E) [] (h_7 N vs) H s1:=by
 have hpl:ps.length≤N.length:=by have:=congrArg List.length S.pre;rw [List.length_take] at this;omega
 obtain⟨h1,tk,rfl,hk⟩:=x.done
 have noA:∀b:Addr,b∉(z_9 CX P w K mg base N qual scope f cd A outer s H E).ex:=fun b z=>absurd (show b∈([]:List Addr) from z) (by simp)
 refine⟨⟨e0.mod,S.kind,rfl,rfl,Nat.le_refl _,fun y z c h1 h2=> ?_,fun y hy=> ?_,fun y c _ h=> ?_,fun _=>hd,Around.frames_deeper e0.frames, .inr ⟨rfl,rfl⟩,fun b z=>absurd z (noA b),e0.bs,e0.bsz,fun b _ _=>noA b,fun b z=>absurd z (noA b),e0.funs,e0.frf⟩,
  rfl,e0.bare,Un.kept hk,⟨_,x.toInCall.ns,fun i y v h1 h2 h3=> ?_⟩,fun y c h=>⟨_,x.cell y c h⟩,e0.hok.fresh (Nat.le_refl _),fun y c h=> ?_,fun p hp=>absurd (show p∈([]:List (Addr×Obj)) from hp) (by simp),e0.hok.kept hk, ?_⟩
 ·exact name_of_addr x.apart (PySem.mem_of_lookup h1) (PySem.mem_of_lookup h2)
 ·have hy:scope.names.lookup y=some .cell∨scope.names.lookup y=some .free:=hy
  rcases hy with hy|hy
  ·exact bb_5 hy
  ·exact absurd rfl (S.nofree _ (PySem.mem_of_lookup hy))
 ·exact Nat.le_of_lt (x.above y c (PySem.mem_of_lookup h))
 ·have hi:i < vs.length:=by
   unfold h_7 at h2
   by_cases hi:i < vs.length
   ·exact hi
   ·rw [List.getElem?_append_right (by simpa using hi)] at h2
    rw [List.getElem?_replicate] at h2
    split at h2 <;> cases h2
  have ha:vs[i]? =some v:=by
   unfold h_7 at h2
   rw [List.getElem?_append_left (by simpa using hi),List.getElem?_map] at h2
   cases e:vs[i]? with
   |none=>rw [e] at h2;cases h2
   |some a=>rw [e] at h2;cases h2;rfl
  obtain⟨u,hu,rv⟩:=r.get ha
  have hp:ps[i]? =some y:=by
   rw [←S.pre,List.getElem?_take_of_lt (by omega)];exact h1
  have ndP:ps.Nodup:=by rw [←S.pre];exact S.nd.sublist (List.take_sublist _ _)
  refine⟨u,rv, ?_⟩
  rcases S.par y (List.mem_of_getElem? hp) with k|k
  ·exact .inl ⟨k,as_1 ndP hp hu k⟩
  ·obtain⟨c,e⟩:=bb_5 (n:=s.heap.objs.size + 1) k
   refine .inr ⟨.inl k,c,e, ?_⟩
   have q:=x.cell y c e
   rw [as_2 ndP hp hu (by show scope.names.lookup y≠_;rw [k];decide)] at q
   exact q
 ·exact e0.hok.fresh (Nat.le_of_lt (x.above y c (PySem.mem_of_lookup h)))
 ·unfold h_7
  show _=N.length
  rw [List.length_append,List.length_map,List.length_replicate]
  omega
theorem cw_1{CX:CXT}{P:Program}{w:World}{K:Frag}{mg:Str→Option Value}{base:Heap}{k:Nat}{f:Addr}{name qual:Str}{params:Arguments}{body:List Stmt}{scope:Scope}{dV kV doc pm zn ct oc:Value}{an od:Option Addr}
  {osl:Array (Option Value)} {N ps:List Str} {sp:Sp} (lk:K.lookup f=some ⟨oc,od, .func (fnOf name qual params body scope dV kV doc pm an zn ct),osl⟩) (hcd:codeIn K zn qual=true) (S:FnScope N ps scope)
  (len:∀vs H Q E,sp vs H Q E→vs.length=ps.length)
  (zj:∀(A:Around) (outer:List Env) (s:Shared) (H:Hp) (vs:List V) (Q:VK) (E:XK),Room k (A.deeper (envOfC qual scope s.heap.objs.size f zn))→sp vs H Q E→
   ∃t,PSs (z_9 CX P w K mg base N qual scope f zn A outer s H E) body t∧t {nx:=fun _ H'=>Q .non H',rt:=Q} (h_7 N vs) H):
  FnOk P w K mg base CX (k + 1) f (fnOf name qual params body scope dV kV doc pm an zn ct) ps sp:=by
 refine⟨len,fun A outer s H args us vs Q E hr e0 hb r hsp=> ?_⟩
 have hl:=len _ _ _ _ hsp
 have KX:K.In s.heap:=e0.mod.kin.keeps fun b o e=>(e0.bs b o e).1
 have lim:s.heap.NoLimit:=e0.mod.nolimit.keeps fun b o e=>(e0.bs b o e).1
 have az:∀y∈ps.zip us,scope.names.lookup y.1=some .local∨(scope.names.lookup y.1=some .cell∧((cellsFrom (s.heap.objs.size + 1) scope.names []).lookup y.1).isSome=true):=fun⟨n,v⟩ hy=>by
  rcases S.par n (List.of_mem_zip hy).1 with q|q
  ·exact .inl q
  ·exact .inr ⟨q,cellsFrom_some _ _ _ (.inl q)⟩
 refine codeAny_call_function hr.depth (KX _ _ lk) rfl S.co S.gen rfl (codeRec_of KX hcd) (hb _ _ _ _ ?_)
 refine wpAny_newFunctionEnv_cells S.kind az fun env he s1 x=> ?_
 subst he
 refine⟨lim.keeps x.toInCall.keep,codeAny_func ?_⟩
 obtain⟨t,ht,hq⟩:=zj A outer s H vs Q E (hr.deeper _) hsp
 have I:Inv (z_9 CX P w K mg base N qual scope f zn A outer s H E) [] (h_7 N vs) H s1:=as_3 S hr.hd e0 hl r x
 refine wpAny_mono (ht [] s1 (h_7 N vs) H _ I hq) (fun fl s' hs=> ?_) fun e s' hs=>hs
 have fin:∀{σ':St} {H':Hp} {v:V} {u:Value},Inv (z_9 CX P w K mg base N qual scope f zn A outer s H E) [] σ' H' s'→RelV v u→Q v H'→CE outer P w H s Q u s':=
  fun{σ' H' v u} J rv q=>⟨v,H',J.os,J.bare,J.base,J.hok,rv,q⟩
 cases fl with
 |ret u=>
  obtain⟨v,σ',H',J,rv,q⟩:=hs
  exact fin J rv q
 |next=>
  obtain⟨σ',H',J,q⟩:=hs
  exact fin (v:=V.non) (u:=Value.none) J rfl q
 |brk=>
  obtain⟨_,_,_,q⟩:=hs
  exact False.elim q
 |cont=>
  obtain⟨_,_,_,q⟩:=hs
  exact False.elim q
section
variable{X:Cx}{x:Str}{p pos:Pos}{e:Expr}{es:List Expr}{t:TA}{id T:String}{r:List V→Hp→VK→Prop}
def tCB(r:List V→Hp→VK→Prop)(t:TA):TE:=fun σ H Q=>t σ H fun vs H1=>r vs H1 Q
theorem bb_6(hc:y_6 X (.builtin id) r)(hg:Gl X x)(hm:X.mg x=none)(hv:bootBuiltins x=some (.builtin id))(ha:PA X (e::es) t)(hn:x≠ "__name__" :=by decide)(hdb:(x ==("__debug__" :Str))=false:=by decide)
  (he:starEach (e::es) X.env=(false,eval e X.env)::starEach es X.env:=by rfl) (hpl:(backTo pos (starEach es X.env)).any (·.1)=false:=by rfl):PE X (.Call (.Name x p) (e::es) [] pos) (tCB r t):=by
 intro zd s σ H Q I h
 refine wpAny_Call_Name_kw (p_6 I hg hm hv ?_ hn hdb)
 exact PyProof.Rows.callWith_builtin1 (thn (ha pos zd s σ H _ I h) fun us s1 ⟨vs,H1,I1,r1,q1⟩=>hc zd s1 σ H1 vs us Q I1 r1 q1) he hpl
theorem br_5(hc:y_6 X (.type T) r)(hg:Gl X x)(hm:X.mg x=none)(hv:bootBuiltins x=some (.type T))(ha:PA X (e::es) t)(hn:x≠ "__name__" :=by decide)(hdb:(x ==("__debug__" :Str))=false:=by decide)
  (he:starEach (e::es) X.env=(false,eval e X.env)::starEach es X.env:=by rfl) (hpl:(backTo pos (starEach es X.env)).any (·.1)=false:=by rfl):PE X (.Call (.Name x p) (e::es) [] pos) (tCB r t):=by
 intro zd s σ H Q I h
 refine wpAny_Call_Name_kw (p_6 I hg hm hv ?_ hn hdb)
 exact PyProof.Rows.callWith_type1 (thn (ha pos zd s σ H _ I h) fun us s1 ⟨vs,H1,I1,r1,q1⟩=>hc zd s1 σ H1 vs us Q I1 r1 q1) he hpl
end
end L2
namespace HT
open PySem PyProof.Rows
section
open PySem.SeqAt
open PySem.AutoSeq1 (wpAny_loadPart')
open PySem.MeetsSeq PySem.MeetsSeq2 PySem.MeetsSeq3
end
section
variable{prog:Program}{w:World}{A:Around}{E:Value→Shared→Prop}{s:Shared}
def sIx(n d:Nat):Option Int→Nat
 |none=>d
 |some v=>if v < 0 then(v + (n:Int)).toNat else min v.toNat n
end
end HT
namespace L2
open PySem PySem.Spec PyProof.Rows
abbrev TO:=St→Hp→(Option Int→Hp→Prop)→Prop
def PO(X:Cx)(e:Option Expr)(t:TO):Prop:=
 ∀(zd:List (Addr×Obj)) (s:Shared) (σ:St) (H:Hp) (Q:Option Int→Hp→Prop),Inv X zd σ H s→t σ H Q→
  wpAny (model X.prog X.w) X.A (evalPart e X.env) (fun u s'=>∃o H',Inv X zd σ H' s'∧IsPart u o∧Q o H') X.xe s
def cf_4:TO:=fun _ H Q=>Q none H
def cw_2(t:TE):TO:=fun σ H Q=>t σ H fun x H1=>∃i,x= .int i∧Q (some i) H1
section
variable{X:Cx}{e:Expr}{te:TE}{lo hi:Option Expr}{tl th:TO}{pos p2:Pos}
theorem cf_5:PO X none cf_4:=by
 intro zd s σ H Q I h
 rw [evalPart_none]
 exact wpAny_pure ⟨none,H,I, .none,h⟩
theorem cf_6(h:PE X e te):PO X (some e) (cw_2 te):=by
 intro zd s σ H Q I hw
 rw [evalPart_some]
 refine thn (h zd s σ H _ I hw) fun u s1 ⟨x,H1,I1,r1,q1⟩=> ?_
 obtain⟨i,rfl,q⟩:=q1
 obtain⟨t,rfl⟩:=r1
 exact⟨some i,H1,I1, .int i t,q⟩
def SlR(X:Cx)(r:V→Option Int→Option Int→Hp→VK→Prop):Prop:=
 ∀(zd:List (Addr×Obj)) (s:Shared) (σ:St) (H:Hp) (x:V) (v vl vu:Value) (lo hi:Option Int) (sl:Addr) (Q:VK),Inv X zd σ H s→RelV x v→s.heap.IsSliceOf sl vl vu .none→IsPart vl lo→IsPart vu hi→r x lo hi H Q→
  ∃T id,typeLookup (.type T) "__getitem__" =pure (some (.builtin id))∧s.TypeIs v T∧wpAny (model X.prog X.w) X.A (getItem v (.ref sl)) (EP X zd σ Q) X.xe s
def tSl(r:V→Option Int→Option Int→Hp→VK→Prop)(te:TE)(tl th:TO):TE:=fun σ H Q=>te σ H fun x H1=>tl σ H1 fun l H2=>th σ H2 fun u H3=>r x l u H3 Q
theorem bw_2{r:V→Option Int→Option Int→Hp→VK→Prop}(hr:SlR X r)(he:PE X e te)(hl:PO X lo tl)(hu:PO X hi th):PE X (.Subscript e (.Slice lo hi none p2) pos) (tSl r te tl th):=by
 intro zd s σ H Q I h
 refine Subscript_ (thn (he zd s σ H _ I h) fun v s1 ⟨x,H1,I1,r1,q1⟩=> ?_)
 refine wpAny_Slice (thn (hl zd s1 σ H1 _ I1 q1) fun vl s2 ⟨l,H2,I2,pl,q2⟩=>thn (hu zd s2 σ H2 _ I2 q2) fun vu s3 ⟨u,H3,I3,pu,q3⟩=> ?_)
 rw [evalPart_none]
 refine wpAny_pure ?_
 have I4:Inv X zd σ H3 {s3 with heap:=s3.heap.push {cls:= .type "slice",data:= .fields #[vl,vu, .none]}}:=I3.kept (t':=s3.toks) fun b ob q=>Heap.get?_push_of_some _ q
 obtain⟨T,id,hT,ht,hg⟩:=hr zd {s3 with heap:=s3.heap.push {cls:= .type "slice",data:= .fields #[vl,vu, .none]}} σ H3 x v vl vu l u s3.heap.objs.size Q I4 r1 (Heap.IsSliceOf.new ..) pl pu q3
 show wpAny (model X.prog X.w) X.A (subscriptTail e (.Slice lo hi none p2) v (.ref s3.heap.objs.size)) (EP X zd σ Q) X.xe {s3 with heap:=s3.heap.push {cls:= .type "slice",data:= .fields #[vl,vu, .none]}}
 exact tail_any (ops:= [.ref s3.heap.objs.size,v]) ht hT hg (by with_unfolding_all rfl)
def cutV(xs:List V)(lo hi:Option Int):List V:=(xs.drop (HT.sIx xs.length 0 lo)).take (HT.sIx xs.length xs.length hi - HT.sIx xs.length 0 lo)
theorem bb_7(xs:List V)(lo hi:Option Int):(cutV xs lo hi).length≤xs.length:=by
 unfold cutV
 rw [List.length_take,List.length_drop]
 omega
end
def ixN(n:Nat)(i:Int):Option Nat:=if 0≤i then(if i < n then some i.toNat else none) else if -(n:Int)≤i then some (i + n).toNat else none
def atI{α:Type}(xs:List α)(i:Int):Option α:=(ixN xs.length i).bind fun j=>xs[j]?
theorem cf_7{n:Nat}{i:Int}{j:Nat}(h:ixN n i=some j):seqIndex? i n=some j∧j < n∧ -(n:Int)≤i∧i < n:=by
 unfold ixN at h
 by_cases h0:0≤i
 ·rw [if_pos h0] at h
  by_cases h1:i < n
  ·rw [if_pos h1] at h
   have e:i.toNat=j:=Option.some.inj h
   exact⟨by rw [seqIndex_of h0 h1,e],by omega,by omega,h1⟩
  ·rw [if_neg h1] at h;cases h
 ·rw [if_neg h0] at h
  by_cases h1: -(n:Int)≤i
  ·rw [if_pos h1] at h
   have e:(i + n).toNat=j:=Option.some.inj h
   exact⟨by rw [seqIndex_neg (by omega) h1,e],by omega,h1,by omega⟩
  ·rw [if_neg h1] at h;cases h
theorem av_2{α:Type}{xs:List α}{i:Int}{v:α}(h:atI xs i=some v):∃j,seqIndex? i xs.length=some j∧xs[j]? =some v∧j < xs.length∧ -(xs.length:Int)≤i∧i < xs.length:=by
 unfold atI at h
 cases e:ixN xs.length i with
 |none=>rw [e] at h;cases h
 |some j=>
  rw [e] at h
  obtain⟨h1,h2,h3,h4⟩:=cf_7 e
  exact⟨j,h1,h,h2,h3,h4⟩
def bm_9(b:Expr):Prop:=∀o i,subscripted b false o i=operate [o,i] (getItem o i)
def IxR(X:Cx)(r:R2):Prop:=
 ∀(value slice:Expr) (zd:List (Addr×Obj)) (s:Shared) (σ:St) (H:Hp) (x y:V) (v u:Value) (Q:VK),Inv X zd σ H s→RelV x v→RelV y u→r x y H Q→
  subscripted slice false v u=operate [v,u] (getItem v u)→wpAny (model X.prog X.w) X.A (subscriptTail value slice v u) (EP X zd σ Q) X.xe s
def MtR(X:Cx)(id:String)(r:V→List V→Hp→VK→Prop):Prop:=
 ∀(zd:List (Addr×Obj)) (s:Shared) (σ:St) (H:Hp) (x:V) (xs:List V) (v:Value) (us:List Value) (Q:VK),Inv X zd σ H s→RelV x v→Vals xs us→r x xs H Q→
  wpAny (model X.prog X.w) X.A (call (.builtin id) (v::us)) (EP X zd σ Q) X.xe s
section
variable{X:Cx}{a b:Expr}{ta tb:TE}{pos:Pos}
theorem cw_3{r:R2}(hr:IxR X r)(ha:PE X a ta)(hb:PE X b tb)(hs:bm_9 b):PE X (.Subscript a b pos) (tOp r ta tb):=by
 intro zd s σ H Q I h
 exact Subscript_ (binT ha hb I h fun v u s2 x y H2 I2 rx ry q=>hr a b zd s2 σ H2 x y v u Q I2 rx ry q (hs _ _))
def rIxL(K:Frag):R2:=fun x y H Q=>∃p xs i v,x= .ref p∧y= .int i∧SqL K H p xs∧atI xs i=some v∧Q v H
def rIxT(K:Frag):R2:=fun x y H Q=>∃p xs i v,x= .ref p∧y= .int i∧SqT K H p xs∧atI xs i=some v∧Q v H
def rIxS:R2:=fun x y H Q=>∃z i c,x= .str z∧y= .int i∧z.length≤sizeLine∧atI z.cps.toList i=some c∧Q (.str ⟨#[c]⟩) H
theorem cf_8:IxR X (rIxL X.K):=by
 intro value slice zd s σ H x y v u Q I rx ry h hs
 obtain⟨p,xs,i,z,rfl,rfl,hq,he,q⟩:=h
 cases rx
 obtain⟨t,rfl⟩:=ry
 obtain⟨its,r,pl,hz⟩:=I.list hq
 obtain⟨j,h1,h2,h3,h4,h5⟩:=av_2 he
 obtain⟨w,ew,rw'⟩:=r.get h2
 have hl:=r.length
 have hn:=ae_4
 have fin:EP X zd σ Q w s:=⟨z,H,I,rw',q⟩
 by_cases h0:0≤i
 ·have hj:i.toNat=j:=by
   rw [seqIndex_of h0 h5] at h1
   exact Option.some.inj h1
  exact item_listR pl.isList h0 (by omega) (by rw [hj];simpa using ew) fin hs
 ·have hj:(i + (its.toArray.size:Int)).toNat=j:=by
   rw [seqIndex_neg (by omega) h4] at h1
   rw [List.size_toArray,←hl]
   exact Option.some.inj h1
  exact subscriptTail_builtinR (x:=w) pl.isList.typeIs slot_list_getitem.lookup
   (wpAny_getItem_list_neg (Q:=fun r s'=>r=w∧EP X zd σ Q r s') pl.isList (by omega) (by rw [List.size_toArray] <;> omega) (by omega) (by rw [hj];simpa using ew) ⟨rfl,fin⟩) hs
theorem cq_3:IxR X (rIxT X.K):=by
 intro value slice zd s σ H x y v u Q I rx ry h hs
 obtain⟨p,xs,i,z,rfl,rfl,hq,he,q⟩:=h
 cases rx
 obtain⟨t,rfl⟩:=ry
 obtain⟨its,r,pl,hz⟩:=I.tuple hq
 obtain⟨j,h1,h2,h3,h4,h5⟩:=av_2 he
 obtain⟨w,ew,rw'⟩:=r.get h2
 have hl:=r.length
 have hn:=ae_4
 have fin:EP X zd σ Q w s:=⟨z,H,I,rw',q⟩
 exact subscriptTail_builtinR (x:=w) pl.typeIs slot_tuple_getitem.lookup
  (getItem_tuple (j:=j) (Q:=fun r s'=>r=w∧EP X zd σ Q r s') pl (by omega) (by omega) (by rw [List.size_toArray,←hl];exact h1) (by simpa using ew) ⟨rfl,fin⟩) hs
theorem cq_4:IxR X rIxS:=by
 intro value slice zd s σ H x y v u Q I rx ry h hs
 obtain⟨z,i,c,rfl,rfl,hz,he,q⟩:=h
 obtain⟨t,rfl⟩:=rx
 obtain⟨t',rfl⟩:=ry
 obtain⟨j,h1,h2,h3,h4,h5⟩:=av_2 he
 have hl:z.cps.toList.length=z.length:=by simp [Str.length]
 rw [hl] at h1 h4 h5
 have hn:=ae_4
 exact tail_any (typeIs_str s z t) slot_str_getitem.lookup (getItem_str (c:=c) (by
  have e1:decide (i < -(2 ^ 63:Int))=false:=decide_eq_false (by omega)
  have e2:decide (i≥2 ^ 63)=false:=decide_eq_false (by omega)
  rw [e1,e2,Bool.or_false]) (by rw [h1];simpa using h2) ⟨.str ⟨#[c]⟩,H,I.tok _,⟨_,rfl⟩,q⟩) hs
theorem Inv.lst{zd:List (Addr×Obj)}{σ:St}{H:Hp}{s:Shared}{p:Addr}{xs:List V}(I:Inv X zd σ H s)(h:H p=some (.lst xs)):
  ∃(its:List Value) (n:Nat),Vals xs its∧s.heap.get? p=some {cls:= .type "list",data:= .seq its.toArray n}∧xs.length≤sizeLine:=by
 obtain⟨z,its,n,r,e⟩:=I.hok p _ h
 exact⟨its,n,r,e,z⟩
theorem av_3(lo hi:Option Int)(n:Nat):(sliceBounds lo hi none n).1=((HT.sIx n 0 lo:Nat):Int)∧(sliceBounds lo hi none n).2.1=((HT.sIx n n hi:Nat):Int)∧(sliceBounds lo hi none n).2.2=1:=by
 refine⟨?_, ?_,rfl⟩
 ·cases lo with
  |none=>simp [sliceBounds,HT.sIx]
  |some i=>
   simp only [sliceBounds,HT.sIx,Option.getD_none,show(1:Int) > 0 by decide,if_true]
   by_cases h:i < 0
   ·simp only [h,if_true] <;> omega
   ·simp only [h,if_false] <;> omega
 ·cases hi with
  |none=>simp [sliceBounds,HT.sIx]
  |some i=>
   simp only [sliceBounds,HT.sIx,Option.getD_none,show(1:Int) > 0 by decide,if_true]
   by_cases h:i < 0
   ·simp only [h,if_true] <;> omega
   ·simp only [h,if_false] <;> omega
theorem ao_9(its:List Value)(lo hi:Option Int):slicePick its.toArray lo hi none=((its.drop (HT.sIx its.length 0 lo)).take (HT.sIx its.length its.length hi - HT.sIx its.length 0 lo)).toArray:=by
 obtain⟨h1,h2,h3⟩:=av_3 lo hi its.toArray.size
 unfold slicePick
 rw [h1,h2,h3]
 simp only [sliceRange_one,pick_run,List.size_toArray] <;> rfl
def rSlL(K:Frag):V→Option Int→Option Int→Hp→VK→Prop:=fun x lo hi H Q=>∃a xs,x= .ref a∧SqL K H a xs∧∀p,H p=none→Q (.ref p) (upd H p (.lst (cutV xs lo hi)))
theorem cf_9:SlR X (rSlL X.K):=by
 intro zd s σ H x v vl vu lo hi sl Q I rx hs pl pu h
 obtain⟨a,xs,rfl,hx,q⟩:=h
 cases rx
 obtain⟨its,r,ht,hz⟩:=I.list hx
 have zk:=r.length
 refine⟨"list",_,slot_list_getitem.lookup,ht.isList.typeIs, ?_⟩
 refine wpAny_getItem_list_slice ht.isList hs pl pu .none (by simp) ?_ (by rw [List.size_toArray] <;> omega)
 rw [ao_9,←zk]
 refine⟨.ref s.heap.objs.size,_,I.laid (t':=s.toks) (o:= .lst (cutV xs lo hi)) (fun b ob q=>Heap.get?_push_of_some _ q) (Nat.le_refl _) ?_,rfl,q _ (I.hok.fresh (Nat.le_refl _))⟩
 exact⟨Nat.le_trans (bb_7 xs lo hi) hz,_,0,(r.drop (HT.sIx xs.length 0 lo)).take (HT.sIx xs.length xs.length hi - HT.sIx xs.length 0 lo),Heap.get?_push_size _ rfl⟩
def y_7:V→Bool
 | .non=>true
 | .bl _=>true
 | .int _=>true
 | .str _=>true
 |_=>false
def eqV:V→V→Bool
 | .non, .non=>true
 | .bl a, .bl b=>a ==b
 | .bl a, .int b=>(if a then 1 else 0) ==b
 | .int a, .bl b=>a ==(if b then 1 else 0)
 | .int a, .int b=>a ==b
 | .str a, .str b=>a ==b
 |_,_=>false
theorem cq_5{A:Around}{s:Shared}{y x:V}{u v:Value}(ry:RelV y u)(rx:RelV x v)(fy:y_7 y=true)(fx:y_7 x=true):SeqAt.EqAt A s u v (eqV y x):=by
 cases y with
 |non=>
  cases ry
  cases x with
  |non=>cases rx;exact SeqAt.EqAt.same _
  |bl b=>cases rx;exact SeqAt.EqAt.none_bool b
  |int b=>obtain⟨t,rfl⟩:=rx;exact SeqAt.EqAt.none_int b t
  |str b=>obtain⟨t,rfl⟩:=rx;exact SeqAt.EqAt.none_str b t
  |_=>exact absurd (show false=true from fx) Bool.false_ne_true
 |bl a=>
  cases ry
  cases x with
  |non=>cases rx;exact SeqAt.EqAt.bool_none a
  |bl b=>cases rx;exact SeqAt.EqAt.bool_bool a b
  |int b=>obtain⟨t,rfl⟩:=rx;exact SeqAt.EqAt.bool_int a b t
  |str b=>obtain⟨t,rfl⟩:=rx;exact SeqAt.EqAt.bool_str a b t
  |_=>exact absurd (show false=true from fx) Bool.false_ne_true
 |int a=>
  obtain⟨t',rfl⟩:=ry
  cases x with
  |non=>cases rx;exact SeqAt.EqAt.int_none a t'
  |bl b=>cases rx;exact SeqAt.EqAt.int_bool a t' b
  |int b=>obtain⟨t,rfl⟩:=rx;exact SeqAt.EqAt.int_int a t' b t
  |str b=>obtain⟨t,rfl⟩:=rx;exact SeqAt.EqAt.int_str a t' b t
  |_=>exact absurd (show false=true from fx) Bool.false_ne_true
 |str a=>
  obtain⟨t',rfl⟩:=ry
  cases x with
  |non=>cases rx;exact SeqAt.EqAt.str_none a t'
  |bl b=>cases rx;exact SeqAt.EqAt.str_bool a t' b
  |int b=>obtain⟨t,rfl⟩:=rx;exact SeqAt.EqAt.str_int a t' b t
  |str b=>obtain⟨t,rfl⟩:=rx;exact SeqAt.EqAt.str_str a t' b t
  |_=>exact absurd (show false=true from fx) Bool.false_ne_true
 |_=>exact absurd (show false=true from fy) Bool.false_ne_true
def eqU(x:V)(u:Value):Bool:=match u with
 | .none=>eqV .non x
 | .bool b=>eqV (.bl b) x
 | .int i _=>eqV (.int i) x
 | .str z _=>eqV (.str z) x
 |_=>false
theorem bw_3{x y:V}{u:Value}(r:RelV y u)(f:y_7 y=true):eqU x u=eqV y x:=by
 cases y with
 |non=>cases r;rfl
 |bl b=>cases r;rfl
 |int i=>obtain⟨t,rfl⟩:=r;rfl
 |str z=>obtain⟨t,rfl⟩:=r;rfl
 |_=>exact absurd (show false=true from f) Bool.false_ne_true
theorem ab_2{x:V}:∀{xs:List V} {us:List Value},Vals xs us→xs.all y_7=true→us.any (eqU x)=xs.any fun y=>eqV y x
 |_,_, .nil,_=>rfl
 |y::xs,u::us, .cons r t,f=>by
  rw [List.all_cons,Bool.and_eq_true] at f
  rw [List.any_cons,List.any_cons,bw_3 r f.1,ab_2 t f.2]
theorem v_4{A:Around}{s:Shared}{x:V}{v:Value}(rx:RelV x v)(fx:y_7 x=true):∀{xs:List V} {us:List Value},Vals xs us→xs.all y_7=true→∀u∈us,SeqAt.EqAt A s u v (eqU x u)
 |_,_, .nil,_=>fun u hu=>by cases hu
 |y::xs,u::us, .cons r t,f=>fun u' hu=>by
  rw [List.all_cons,Bool.and_eq_true] at f
  rcases List.mem_cons.mp hu with rfl|hu
  ·rw [bw_3 r f.1];exact cq_5 r rx f.1 fx
  ·exact v_4 rx fx t f.2 u' hu
def inV(x:V)(xs:List V):Bool:=xs.any fun y=>eqV y x
def rIn(K:Frag)(neg:Bool):R2:=fun x y H Q=>∃p xs,y= .ref p∧(SqL K H p xs∨SqT K H p xs)∧y_7 x=true∧xs.all y_7=true∧Q (.bl (if neg then !inV x xs else inV x xs)) H
theorem br_7:OpR X (compareOp .In) (rIn X.K false):=by
 intro zd s σ H x y v u Q I rx ry h
 obtain⟨p,xs,rfl,hq,fx,fs,q⟩:=h
 cases ry
 rcases hq with hq|hq
 ·obtain⟨its,r,pl,hz⟩:=I.list hq
  refine SeqAt.in_listAt (eqU x) pl.isList (fun w hw=>v_4 rx fx r fs w (by simpa using hw)) ⟨.bl _,H,I,rfl, ?_⟩
  rw [show its.toArray.any (eqU x)=its.any (eqU x) by simp,ab_2 r fs]
  exact q
 ·obtain⟨its,r,pl,hz⟩:=I.tuple hq
  refine SeqAt.in_tupleAt (eqU x) pl (fun w hw=>v_4 rx fx r fs w (by simpa using hw)) ⟨.bl _,H,I,rfl, ?_⟩
  rw [show its.toArray.any (eqU x)=its.any (eqU x) by simp,ab_2 r fs]
  exact q
theorem av_4:OpR X (compareOp .NotIn) (rIn X.K true):=by
 intro zd s σ H x y v u Q I rx ry h
 obtain⟨p,xs,rfl,hq,fx,fs,q⟩:=h
 cases ry
 rcases hq with hq|hq
 ·obtain⟨its,r,pl,hz⟩:=I.list hq
  refine SeqAt.notIn_listAt (eqU x) pl.isList (fun w hw=>v_4 rx fx r fs w (by simpa using hw)) ⟨.bl _,H,I,rfl, ?_⟩
  rw [show its.toArray.any (eqU x)=its.any (eqU x) by simp,ab_2 r fs]
  exact q
 ·obtain⟨its,r,pl,hz⟩:=I.tuple hq
  refine SeqAt.notIn_tupleAt (eqU x) pl (fun w hw=>v_4 rx fx r fs w (by simpa using hw)) ⟨.bl _,H,I,rfl, ?_⟩
  rw [show its.toArray.any (eqU x)=its.any (eqU x) by simp,ab_2 r fs]
  exact q
theorem av_5:OpR X (compareOp .NotIn) (fun x y H Q=>∃i j,x= .str i∧y= .str j∧Q (.bl (!(!(Builtin.Str.occurrences j i 0 j.length 1).isEmpty))) H):=by
 intro zd s σ H x y v u Q I rx ry h
 obtain⟨i,j,rfl,rfl,q⟩:=h
 obtain⟨t,rfl⟩:=rx
 obtain⟨t',rfl⟩:=ry
 exact notIn_str ⟨.bl _,H,I,rfl,q⟩
theorem ab_3:y_6 X (.builtin "len") (fun xs H Q=>∃p ys,xs= [.ref p]∧(SqL X.K H p ys∨SqT X.K H p ys)∧Q (.int ys.length) H):=by
 intro zd s σ H xs us Q I r h
 obtain⟨p,ys,rfl,hq,q⟩:=h
 obtain⟨u,rfl,rx⟩:=bb_4 r
 cases rx
 have hn:=ae_4
 rcases hq with hq|hq
 ·obtain⟨its,r',pl,hz⟩:=I.list hq
  have zk:=r'.length
  exact Calls.call_len_list pl.isList (by simp only [List.size_toArray] <;> omega) ⟨.int ys.length,H,I.tok _,⟨s.toks + 1,by rw [List.size_toArray,zk]⟩,q⟩
 ·obtain⟨its,r',pl,hz⟩:=I.tuple hq
  have zk:=r'.length
  exact len_tuple pl (by simp only [List.size_toArray] <;> omega) ⟨.int ys.length,H,I.tok _,⟨s.toks + 1,by rw [List.size_toArray,zk]⟩,q⟩
theorem av_6:y_6 X (.builtin "len") (fun xs H Q=>∃z,xs= [.str z]∧z.length≤sizeLine∧Q (.int z.length) H):=by
 intro zd s σ H xs us Q I r h
 obtain⟨z,rfl,hz,q⟩:=h
 obtain⟨u,rfl,t,rfl⟩:=bb_4 r
 have hn:=ae_4
 exact len_str (by omega) ⟨.int z.length,H,I.tok _,⟨_,rfl⟩,q⟩
theorem ab_4:y_6 X (.type "list") (fun xs H Q=>∃p ys,xs= [.ref p]∧(SqL X.K H p ys∨SqT X.K H p ys)∧∀l,H l=none→Q (.ref l) (upd H l (.lst ys))):=by
 intro zd s σ H xs us Q I r h
 obtain⟨p,ys,rfl,hq,q⟩:=h
 obtain⟨u,rfl,rx⟩:=bb_4 r
 cases rx
 have fin:∀(its:List Value),Vals ys its→ys.length≤sizeLine→∀(h':Heap) (c':Nat),(∀b o',s.heap.get? b=some o'→h'.get? b=some o')→
   h'.get? s.heap.objs.size=some {cls:= .type "list",dict:=none,data:= .seq its.toArray c',slots:= #[]}→EP X zd σ Q (.ref s.heap.objs.size) {s with heap:=h'}:=fun its r' hz h' c' kp e=>
  ⟨.ref s.heap.objs.size,_,I.laid (t':=s.toks) kp (Nat.le_refl _) (show ObjOk X.prog X.w _ h' _ (.lst ys) from⟨hz,its,c',r',e⟩),rfl,q _ (I.hok.fresh (Nat.le_refl _))⟩
 rcases hq with hq|hq
 ·obtain⟨its,r',pl,hz⟩:=I.list hq
  have zk:=r'.length
  obtain⟨o,ho,hc,n,hd⟩:=pl.isList
  exact call_list_seq p (.inl rfl) ho hc hd (fun h' c' kp e=>fin its r' hz h' c' kp e) (by simp only [List.size_toArray] <;> omega)
 ·obtain⟨its,r',pl,hz⟩:=I.tuple hq
  have zk:=r'.length
  obtain⟨o,ho,hc,n,hd⟩:=pl
  exact call_list_seq p (.inr rfl) ho hc hd (fun h' c' kp e=>fin its r' hz h' c' kp e) (by simp only [List.size_toArray] <;> omega)
def tyV(K:Frag)(T:String)(x:V)(H:Hp):Prop:=match x with
 | .str _=>T= "str"
 | .int _=>T= "int"
 | .ref p=>(T= "list" ∧∃xs,SqL K H p xs)∨(T= "tuple" ∧∃o,K.lookup p=some o∧o.cls= .type "tuple" ∧o.dict=none)∨
   (T= "dict" ∧((∃kvs,H p=some (.dK kvs))∨∃kvs,H p=some (.dT kvs)))∨(T= "set" ∧∃S n,H p=some (.set S n))
 |_=>False
theorem bw_4{zd:List (Addr×Obj)}{σ:St}{H:Hp}{s:Shared}{T:String}{x:V}{v:Value}(I:Inv X zd σ H s)(r:RelV x v)(ty:tyV X.K T x H):
  s.TypeIs v T∧∀a,v= .ref a→∃ob,s.heap.get? a=some ob∧ob.dict=none:=by
 cases x with
 |str z=>
  obtain⟨t,rfl⟩:=r
  cases(show T= "str" from ty)
  exact⟨typeIs_str s z t,fun _ e=>nomatch e⟩
 |int i=>
  obtain⟨t,rfl⟩:=r
  cases(show T= "int" from ty)
  exact⟨typeIs_int s i t,fun _ e=>nomatch e⟩
 |ref p=>
  cases r
  rcases ty with⟨rfl,xs,hq⟩|⟨rfl,o,hk,hc,hd⟩|⟨rfl,hk⟩|⟨rfl,S,n,hk⟩
  ·obtain⟨its,_,pl,_⟩:=I.list hq
   refine⟨pl.isList.typeIs,fun a e=> ?_⟩
   cases e
   obtain⟨o,n,e,c,hd,_⟩:=pl
   exact⟨o,e,hd⟩
  ·refine⟨⟨o,I.kIn p o hk,hc⟩,fun a e=> ?_⟩
   cases e
   exact⟨o,I.kIn _ o hk,hd⟩
  ·have z:∃o,s.heap.get? p=some o∧o.ExactDict:=by
    rcases hk with⟨kvs,hk⟩|⟨kvs,hk⟩
    ·obtain⟨_,_,_,_,o,_,_,e,ex,_⟩:=I.hok p _ hk
     exact⟨o,e,ex⟩
    ·obtain⟨_,_,_,_,o,_,_,e,ex,_⟩:=I.hok p _ hk
     exact⟨o,e,ex⟩
   obtain⟨o,e,ex⟩:=z
   refine⟨⟨o,e,ex.1⟩,fun a e2=> ?_⟩
   cases e2
   exact⟨o,e,ex.2.1⟩
  ·obtain⟨o,_,_,_,e,ex,_⟩:=I.hok p _ hk
   refine⟨⟨o,e,ex.1⟩,fun a e2=> ?_⟩
   cases e2
   exact⟨o,e,ex.2.1⟩
 |_=>exact False.elim ty
def tBM0(K:Frag)(T:String)(r:V→List V→Hp→VK→Prop)(to:TE):TE:=fun σ H Q=>to σ H fun x H1=>tyV K T x H1∧r x [] H1 Q
def tBM(K:Frag)(T:String)(r:V→List V→Hp→VK→Prop)(to:TE)(t:TA):TE:=fun σ H Q=>to σ H fun x H1=>tyV K T x H1∧t σ H1 fun xs H2=>r x xs H2 Q
variable{o e:Expr}{es:List Expr}{to:TE}{t:TA}{name:Str}{zh zf:Pos}{T id:String}{r:V→List V→Hp→VK→Prop}
theorem cq_6(pa:PlainAttrs T)(slot:Slot T name id)(hty:typeOf (.builtin id)=pure (.type "method_descriptor"))(hm:MtR X id r)(ho:PE X o to)
  (aa:attributeBase o name X.env (eval o X.env)=eval o X.env:=by rfl) (af:(zh.endLine ==zf.line)=true:=by rfl):PE X (.Call (.Attribute o name zh) [] [] zf) (tBM0 X.K T r to):=by
 intro zd s σ H Q I h
 refine wpAny_Call_method0_late aa af (thn (ho zd s σ H _ I h) fun v s1 ⟨x,H1,I1,r1,ty,q1⟩=> ?_)
 obtain⟨h1,h2⟩:=bw_4 I1 r1 ty
 exact⟨T,id,pa,slot,hty,h1,h2,Calls.callWith_builtin rfl (PySem.evalArgs_none (hm zd s1 σ H1 x [] v [] Q I1 r1 .nil q1))⟩
theorem bw_5(pa:PlainAttrs T)(slot:Slot T name id)(hty:typeOf (.builtin id)=pure (.type "method_descriptor"))(hm:MtR X id r)(ho:PE X o to)(ha:PA X (e::es) t)
  (aa:attributeBase o name X.env (eval o X.env)=eval o X.env:=by rfl)
  (ba:((backTo zf (starEach (e::es) X.env)).all (fun x=> !x.1) && (backToKw zf (keywordEach [] X.env)).all (fun x=>x.1.isSome)
   && decide ((e::es).length + ([]:List Keyword).length + (if([]:List Keyword).isEmpty then 0 else 1) < 30))=true:=by rfl)
  (af:(zh.endLine ==zf.line)=true:=by rfl) (hs:starEach (e::es) X.env=(false,eval e X.env)::starEach es X.env:=by rfl) (ae:(backTo zf (starEach es X.env)).any (·.1)=false:=by rfl):
  PE X (.Call (.Attribute o name zh) (e::es) [] zf) (tBM X.K T r to t):=by
 intro zd s σ H Q I h
 refine wpAny_Call_method_late aa ba af rfl (thn (ho zd s σ H _ I h) fun v s1 ⟨x,H1,I1,r1,ty,q1⟩=> ?_)
 obtain⟨h1,h2⟩:=bw_4 I1 r1 ty
 refine⟨T,id,pa,slot,hty,h1,h2, ?_⟩
 have hA:=ha zf zd s1 σ H1 _ I1 q1
 rw [hs] at hA⊢
 refine Calls.callWith_builtin (by show(false || (backTo zf (starEach es X.env)).any (·.1))=false;rw [ae] <;> rfl) (Calls.evalArgs_plain ?_)
 exact thn hA fun us s2 ⟨vs,H2,I2,r2,q2⟩=>hm zd s2 σ H2 x vs v us Q I2 r1 r2 q2
end
def MtM(X:Cx)(id:String)(r:V→List V→Hp→VK→Prop):Prop:=
 ∀(zd:List (Addr×Obj)) (s:Shared) (σ:St) (H:Hp) (x:V) (xs:List V) (v:Value) (us:List Value) (Q:VK),Inv X zd σ H s→RelV x v→Vals xs us→r x xs H Q→
  wpAny (model X.prog X.w) X.A (call (.builtin id) (v::us)) (EP X zd σ Q) X.xe s
theorem Vals.one:∀{x:V} {us:List Value},Vals [x] us→∃u,us= [u]∧RelV x u
 |_,_, .cons r .nil=>⟨_,rfl,r⟩
theorem Vals.two:∀{x y:V} {us:List Value},Vals [x,y] us→∃u v,us= [u,v]∧RelV x u∧RelV y v
 |_,_,_, .cons r (.cons q .nil)=>⟨_,_,rfl,r,q⟩
theorem Vals.zero:∀{us:List Value},Vals [] us→us= []
 |_, .nil=>rfl
theorem Vals.dropLast{xs:List V}{us:List Value}(h:Vals xs us):Vals xs.dropLast us.dropLast:=by
 induction h with
 |nil=>exact .nil
 |cons r t ih=>
  cases t with
  |nil=>exact .nil
  |cons q t'=>exact .cons r ih
theorem Vals.eraseIdx:∀{xs:List V} {us:List Value} (i:Nat),Vals xs us→Vals (xs.eraseIdx i) (us.eraseIdx i)
 |_,_,_, .nil=> .nil
 |_,_,0, .cons _ t=>t
 |_,_,i + 1, .cons r t=> .cons r (Vals.eraseIdx i t)
theorem Vals.reverse{xs:List V}{us:List Value}(h:Vals xs us):Vals xs.reverse us.reverse:=by
 induction h with
 |nil=>exact .nil
 |cons r t ih=>rw [List.reverse_cons,List.reverse_cons];exact Vals.append ih (.cons r .nil)
theorem bi_7{α:Type}(l:List α):l.eraseIdx (l.length - 1)=l.dropLast:=by
 induction l with
 |nil=>rfl
 |cons a r ih=>
  cases r with
  |nil=>rfl
  |cons b r=>
   have e:(a::b::r).length - 1=((b::r).length - 1) + 1:=by
    have h1:(a::b::r).length=r.length + 2:=rfl
    have h2:(b::r).length=r.length + 1:=rfl
    omega
   rw [e,List.eraseIdx_cons_succ,ih]
   all_goals rfl
section
variable{X:Cx}{zd:List (Addr×Obj)}{σ:St}{H:Hp}{s:Shared}{l b:Addr}{xs ys zs:List V}
theorem Inv.lset{its its':List Value}{n:Nat}{f:Array Value→Array Value}{t':Nat}(I:Inv X zd σ H s)(hH:H l=some (.lst xs))
  (e:s.heap.get? l=some {cls:= .type "list",data:= .seq its.toArray n}) (hf:f its.toArray=its'.toArray) (hv:Vals ys its') (hz:ys.length≤sizeLine):
  Inv X zd σ (upd H l (.lst ys)) {s with heap:=s.heap.update l (Obj.mapSeq f),toks:=t'}:=by
 have q:=PySem.IsL.update e f
 rw [hf] at q
 refine I.write (x:=l) (e:=l) (by rw [hH];exact trivial) (.inl rfl) (fun b' u hb hu=>(Heap.get?_update_other s.heap (Obj.mapSeq f) (Ne.symm hb)).trans hu) ⟨_,q⟩ ?_
 exact⟨hz,its',_,hv,q⟩
theorem Inv.lnew{its:List Value}{t':Nat}(I:Inv X zd σ H s)(hv:Vals ys its)(hz:ys.length≤sizeLine):
  Inv X zd σ (upd H s.heap.objs.size (.lst ys)) {s with heap:=s.heap.push {cls:= .type "list",data:= .seq its.toArray},toks:=t'}:=
 I.laid (fun _ _ q=>Heap.get?_push_of_some _ q) (Nat.le_refl _) ⟨hz,its,0,hv,Heap.get?_push_size _ rfl⟩
theorem Inv.fresh(I:Inv X zd σ H s):H s.heap.objs.size=none:=I.hok.fresh (Nat.le_refl _)
theorem Inv.lstM(I:Inv X zd σ H s)(hH:H l=some (.lst xs)):xs.length≤sizeLine∧∃(its:List Value) (n:Nat),Vals xs its∧xs.length=its.length∧s.heap.get? l=some {cls:= .type "list",data:= .seq its.toArray n}:=by
 obtain⟨z,its,n,r,e⟩:=I.hok l _ hH
 exact⟨z,its,n,r,r.length,e⟩
theorem bb_8{n:Nat}(h:n≤sizeLine):Builtin.List.listTooLong n=false:=by
 unfold Builtin.List.listTooLong
 exact decide_eq_false (by omega)
end
section
variable{X:Cx}
def bn_0:V→List V→Hp→VK→Prop:=fun x vs H Q=>∃l xs y,x= .ref l∧vs= [y]∧H l=some (.lst xs)∧xs.length < sizeLine∧Q .non (upd H l (.lst (xs ++ [y])))
theorem ae_6:MtM X "list.append" bn_0:=by
 intro zd s σ H x vs v us Q I rx rv h
 obtain⟨l,xs,y,rfl,rfl,hH,hz,q⟩:=h
 cases rx
 obtain⟨u,rfl,ru⟩:=rv.one
 obtain⟨z,its,n,r,hl,e⟩:=I.lstM hH
 refine call_meets F.slot_list_append ⟨_,e,rfl⟩ F.entry_list_append (F.args_list_append_2 _ _) (PySem.list_append l its.toArray n u (by rw [List.size_toArray];omega)) ⟨e, ?_⟩
 refine⟨.non,_,I.lset (its':=its ++ [u]) hH e (by simp) (r.append (.cons ru .nil)) ?_,rfl,q⟩
 rw [List.length_append,List.length_singleton]
 omega
def rPop:V→List V→Hp→VK→Prop:=fun x vs H Q=>∃l xs y,x= .ref l∧vs= []∧H l=some (.lst xs)∧xs[xs.length - 1]? =some y∧Q y (upd H l (.lst xs.dropLast))
theorem cq_7:MtM X "list.pop" rPop:=by
 intro zd s σ H x vs v us Q I rx rv h
 obtain⟨l,xs,y,rfl,rfl,hH,hy,q⟩:=h
 cases rx
 have hus:=rv.zero
 subst hus
 obtain⟨z,its,n,r,hl,e⟩:=I.lstM hH
 obtain⟨u,hu,ru⟩:=r.get hy
 have hy':its.toArray[its.toArray.size - 1]? =some u:=by
  show its.toArray[its.length - 1]? =some u
  rw [←Array.getElem?_toList,←hl]
  exact hu
 refine call_meets F.slot_list_pop ⟨_,e,rfl⟩ F.entry_list_pop (F.args_list_pop_1 _) (MeetsSeq.list_pop_last l its.toArray n u hy' (by rw [List.size_toArray];omega)) ⟨e, ?_⟩
 refine⟨y,_,I.lset (its':=its.dropLast) hH e ?_ r.dropLast ?_,ru,q⟩
 ·show its.toArray.eraseIdxIfInBounds (its.toArray.size - 1)=its.dropLast.toArray
  rw [List.size_toArray,List.eraseIdxIfInBounds_toArray,bi_7]
 ·rw [List.length_dropLast]
  omega
end
section
variable{prog:Program}{w:World}{A:Around}{E:Value→Shared→Prop}{s:Shared}
theorem bi_8{a c n:Nat}(hac:a≤c)(hc:c≤n):sliceBounds (some (a:Int)) (some (c:Int)) none n=((a:Int),(c:Int),1):=by
 simp only [sliceBounds,Option.getD_none]
 have h1:¬((a:Int) < 0):=by omega
 have h2:¬((c:Int) < 0):=by omega
 simp only [h1,h2,if_false,show(1:Int) > 0 by decide,if_true]
 congr 1
 ·omega
 ·congr 1;omega
set_option maxRecDepth 100000 in
theorem ce_2{l b sl:Addr}{items new:Array Value}{n n2:Nat}{vl vu:Value}{a c:Nat}{Q:Unit→Shared→Prop}
  (e:s.heap.get? l=some {cls:= .type "list",data:= .seq items n}) (e2:s.heap.get? b=some {cls:= .type "list",data:= .seq new n2}) (hne:l≠b)
  (hs:s.heap.IsSliceOf sl vl vu .none) (pl:IsPart vl (some (a:Int))) (pu:IsPart vu (some (c:Int))) (hac:a≤c) (hc:c≤items.size)
  (hsz:items.size + new.size≤sizeLine) (h:Q () {s with heap:=s.heap.update l (Obj.mapSeq fun xs=>xs.extract 0 a ++ new ++ xs.extract c xs.size)}):
  wpAny (model prog w) A (setItem (.ref l) (.ref sl) (.ref b)) Q E s:=by
 have hl:s.heap.IsList l items:=PySem.IsL.isList e
 have hb:s.heap.IsList b new:=PySem.IsL.isList e2
 obtain⟨os,hos,hcs,hds⟩:=id hs
 have hTs:s.TypeIs (.ref sl) "slice" :=⟨os,hos,hcs⟩
 have bz:¬((rawPart none ==rawInt 0)=true):=Bool.false_ne_true
 have ay:Builtin.List.listSameRef (.ref l) (.ref b)=false:=by
  unfold Builtin.List.listSameRef
  exact beq_eq_false_iff_ne.mpr hne
 have dz:(max (a:Int) (c:Int)).toNat=c:=by omega
 have hz':((fun xs:Array Value=>xs.extract 0 a ++ new ++ xs.extract c xs.size) items).size≤sizeLine + 1:=by
  simp only [Array.size_append,Array.size_extract]
  omega
 unfold setItem
 try with_reducible refine wpAny_holding ?_
 first|refine wpAny_bind (wpAny_pure ?_)|skip
 refine wpAny_bind (wpAny_sequenceKey hl.typeIs (by decide) ?_)
 refine wpAny_bind (wpAny_callSpecial?_slot (name:=Str.ofString "__setitem__") hl.typeIs slot_list_setitem
  (wpAny_call_entry slot_list_setitem hl.typeIs entry_list_setitem ?_ (args_list_setitem _ _ _)))
 show wpAny _ _ (Builtin.List.listSubscript? (.ref sl) >>=_) _ _ s
 refine wpAny_bind ?_
 unfold Builtin.List.listSubscript?
 refine wpAny_bind (wpAny_specialOf hTs slice_no_index ?_)
 simp only [Option.isNone_none,if_true]
 refine wpAny_pure ?_
 show wpAny _ _ (typeOf (.ref sl) >>=_) _ _ s
 refine wpAny_bind (wpAny_typeOf hTs ?_)
 first
  |rw [if_neg (by decide)]
  |refine PySem.W.KFB.if_not (by decide) ?_
 rw [listSliceParts_eq]
 refine wpAny_bind (wpAny_bind (wpAny_field hos hds (x:= .none) rfl (wpAny_bind (wpAny_listPart .none ?_))))
 rw [if_neg bz]
 refine wpAny_bind (wpAny_field hos hds (x:=vl) rfl (wpAny_bind (wpAny_listPart pl ?_)))
 refine wpAny_bind (wpAny_field hos hds (x:=vu) rfl (wpAny_bind (wpAny_listPart pu (wpAny_pure ?_))))
 first
  |simp only [ay,Bool.false_eq_true,if_false]
  |refine PySem.W.KFB.if_not ay ?_
  | (dsimp only
     rw [if_neg (by rw [ay];exact Bool.false_ne_true)])
 refine wpAny_bind (m:=Builtin.List.listAllItems (.ref b) "must assign iterable to extended slice") ?_
 unfold Builtin.List.listAllItems
 refine wpAny_bind (wpAny_typeOf hb.typeIs ?_)
 first
  |refine PySem.W.KFB.if_so (by decide) ?_
  |rw [if_pos (by decide)]
  |simp only [beq_self_eq_true,Bool.true_or,if_true]
 unfold Builtin.List.listItems
 refine wpAny_bind (wpAny_seqItems e2 rfl (wpAny_pure ?_))
 refine wpAny_bind (wpAny_bind (wpAny_seqItems e rfl (wpAny_pure ?_)))
 refine wpAny_bind (wpAny_of_eq ((sliceIndices_raw (some (a:Int)) (some (c:Int)) none items.size (by simp)).trans (congrArg (pure:Int×Int×Int→Sem (Int×Int×Int)) (bi_8 hac hc))) ?_)
 show wpAny _ _ (if((1:Int) ==1)=true then _ else _) _ _ s
 rw [if_pos (by decide)]
 refine wpAny_bind (wpAny_rule ?_)
 first
  |simp only [bb_8 hsz,Bool.false_eq_true,if_false]
  |refine PySem.W.KFB.if_not (bb_8 hsz) ?_
 first|refine wpAny_bind (wpAny_pure ?_)|skip
 show wpAny _ _ (updateSeq l (fun xs=>xs.extract 0 ((a:Int)).toNat ++ new ++ xs.extract (max (a:Int) (c:Int)).toNat xs.size) >>=_) _ _ s
 rw [dz,Int.toNat_natCast]
 refine wpAny_bind (wpAny_updateSeq (hz:=Nat.le_trans (Nat.le_add_right _ _) hsz) (_hz':=hz') e rfl ?_)
 refine wpAny_bind (wpAny_letGo ?_)
 first
  |exact wpAny_bind (wpAny_pure (wpAny_pure ⟨.none,rfl,wpAny_pure h⟩))
  |exact wpAny_pure ⟨.none,rfl,wpAny_pure h⟩
end
section
variable{X:Cx}
end
end L2
namespace Att
open PySem PySem.W PySem.Calls PyProof.Rows
theorem ai_8{P:Params}{h:Heap}:∀(ns:List Int) (vs:List Value),WellAll P h vs (ns.map WData.int)→IntsAre vs ns:=by
 intro ns
 induction ns with
 |nil=>
  intro vs w
  rw [List.map_nil] at w
  cases w
  exact .nil
 |cons n ns ih=>
  intro vs w
  rw [List.map_cons] at w
  cases w with
  |cons a b=>
   cases a
   exact .cons _ _ (ih _ b)
theorem br_8{l:OpenLaw}{n:Nat}(hn:l.most=some n){P:Params}{h:Heap}{args:List WData}{vals:List Value}
  (bo:l.row.toRowW.claim.pre args=true) (hwl:WellAll P h vals args):
  ∃a vs ns,vals= [Value.ref a]∧args= [WData.list (ns.map WData.int)]∧h.get? a=some {cls:= .type "list",data:= .seq vs.toArray}∧IntsAre vs ns∧ns.length≤n:=by
 have hsh:WShape.hasAll [] args [.list .int]=true:=(pre_splitW bo).1
 have hc:l.pre.holds [] {args:=args}=true:=(pre_splitW bo).2
 obtain⟨d,r,rfl,h1,h2⟩:=hasAllW_cons hsh
 obtain rfl:=hasAllW_nil h2
 obtain⟨xs,rfl,h3⟩:=hasW_list h1
 obtain⟨ns,rfl⟩:=items_int h3
 have zk:ns.length≤n:=by
  unfold OpenLaw.pre at hc
  have h4:(WTm.not (.lt (.lit (.int (n:Int))) (.len (.arg 0)))).holds [] {args:= [.list (ns.map .int)]}=true:=by
   have h4:=(holds_andW hc).1
   rw [hn] at h4
   exact h4
  have h5:=condW_of h4 (w_not (w_lt w_lit (w_len_list (w_arg rfl))))
  rw [List.length_map] at h5
  refine Nat.le_of_not_lt fun q=> ?_
  have q':(n:Int) < ((ns.length:Nat):Int):=by omega
  first
   |(rw [decide_eq_true q'] at h5;exact absurd h5 (by decide))
   |(simp at h5;omega)
 cases hwl with
 |cons w1 w2=>
  cases w2
  cases w1 with
  |list ho bq=>exact⟨_,_,ns,rfl,rfl,ho,ai_8 ns _ bq,zk⟩
theorem br_9(l:OpenLaw)(args:List WData):l.row.toRowW.claim.post args (.bool true) args=true:=
 postW_of (r:=l.row.toRowW) (X:=(true ==true))
  (show WShape.has [] (.bool true) .bool=true by first|rfl|decide|simp [WShape.has,WShape.arms,WShape.armsAll])
  (show(WTm.eq .res (.lit (.bool true))).value [] {args:=args,res:=some (.bool true),after:=args}=some (.bool (true ==true)) from w_eq_bool (w_res rfl) w_lit) rfl
theorem attach_call{l:OpenLaw}{n:Nat}{q:Program}{loose:List Str}{XP:(Str→Option Value)→Heap→Prop}{YP:World→Heap→Prop}{d:DefRec}
  (hn:l.most=some n) (hdf:d.params.defaults= [])
  (call:∀(w:World) (s₀ s₁:Shared) (mg mb:Str→Option Value) (fa:Addr) (o:Obj) (pm cd doc:Value) (a:Addr) (vs:List Value) (ns:List Int),
   Ground q loose [] XP w s₀ mg mb s₁.heap→YP w s₁.heap→
   s₁.heap.get? fa=some o→o.data= .func (docDef d.name d.params d.body d.scope pm cd doc)→s₁.heap.CodeRec cd d.name→mg d.name=some (.ref fa)→
   s₁.heap.get? a=some {cls:= .type "list",data:= .seq vs.toArray}→IntsAre vs ns→ns.length≤n→s₁.gens= #[]→
   codeAny (model l.prog w) callerA (.call (.ref fa) ⟨[.ref a], []⟩) (fun r s'=>r= .ok (.ret (.bool true))∧OldK s₁.heap s'.heap∧s'.os=s₁.os∧AllBare s'.gens) s₁):
  WalkO q loose XP YP l.row.toRowW d [] (fun f vs=>PySem.call f vs):=by
 intro w s₀ s₁ mg mb G Y fa o pm cd doc dV kV ho hd hcd hD hmg hg args vals as bo hlay hrd hwl hlo
 obtain rfl:dV= .none:=Dflts.none hD hdf
 obtain rfl:kV= .none:=Dflts.noKw hD
 obtain⟨a,vs,ns,rfl,rfl,bc,hints,zk⟩:=br_8 hn bo hwl
 refine enter_call (codeAny_mono (call w s₀ s₁ mg mb fa o pm cd doc a vs ns G Y ho (fd_plain hd) hcd hmg bc hints zk hg) fun r s' hq=> ?_)
 obtain⟨rfl,h2,h3,h4⟩:=hq
 exact⟨.inl ⟨.bool true, .bool true, [],rfl,fun _=>rfl, .bool true,br_9 l _,fun _=>⟨List.Pairwise.nil,fun _ hm=>(nomatch hm)⟩⟩,h2,h3,h4⟩
section
variable{prog:Program}{w:World}{A:Around}{E:Value→Shared→Prop}{s:Shared}{K:Frag}
end
end Att
namespace L2
open PySem PySem.Spec PyProof.Rows
theorem as_4:∀{vs:List Value} {ns:List Int},IntsAre vs ns→Vals (ns.map V.int) vs
 |_,_, .nil=> .nil
 |_,_, .cons n t h=> .cons ⟨t,rfl⟩ (as_4 h)
def Only(H:Hp):Prop:=∀b,H b=none∨∃o xs,H b=some (.frz o (.lst xs))
theorem bw_6{P:Program}{w:World}{K:Frag}{mg mb:Str→Option Value}{CX:CXT}{k:Nat}{fa a:Addr}{fd:FuncData}{x:Str}{sp:Sp}{s₁:Shared}{vs:List Value}{ns:List Int}
  (KX:K.In s₁.heap) (hns:s₁.heap.Ns mainGlobals mg) (hb:s₁.heap.Ns builtinsNs mb) (hbb:∀x:Str,x≠ "__name__" →mb x=bootBuiltins x) (du:s₁.heap.NoLimit) (hg:s₁.gens= #[])
  (ha:s₁.heap.get? a=some {cls:= .type "list",data:= .seq vs.toArray}) (hi:IntsAre vs ns) (hl:ns.length≤sizeLine) (hr:Room k callerA)
  (F:∀base:Heap,K.In base→base.Ns mainGlobals mg→FnOk P w K mg base CX k fa fd [x] sp) (cu:∀(s:Shared) (u:Value),BindsTo s fd ⟨[u], []⟩ [(x,u)])
  (hsp:∀H:Hp,Only H→SqL K H a (ns.map V.int)→sp [.ref a] H (fun v _=>v= .bl true) fun _ _ _=>False)
  (hCX:∀H e s',CX [] H s₁ (fun _ _ _=>False) e s'→False):
  codeAny (model P w) callerA (.call (.ref fa) ⟨[.ref a], []⟩) (fun r s'=>r= .ok (.ret (.bool true))∧OldK s₁.heap s'.heap∧s'.os=s₁.os∧AllBare s'.gens) s₁:=by
 have rv:=as_4 hi
 have eg:=hi.length
 
 have core:∀H:Hp,Only H→SqL K H a (ns.map V.int)→HOk P w H s₁.heap→(∀b,H b≠none→b=a)→(H a≠none→K.lookup a=none)→
   codeAny (model P w) callerA (.call (.ref fa) ⟨[.ref a], []⟩) (fun r s'=>r= .ok (.ret (.bool true))∧OldK s₁.heap s'.heap∧s'.os=s₁.os∧AllBare s'.gens) s₁:=by
  intro H hO hS hok hA hK
  have ak:∀{b:Addr} {o:Obj},s₁.heap.get? b=some o→H b=none→(hidT s₁.heap H).get? b=some o:=fun e n=>bu_9 e n
  have noA:∀{b:Addr} {o:Obj} {es:Array DictEntry} {ep:Nat},s₁.heap.get? b=some o→o.data= .dict es ep→H b=none:=fun{b o es ep} e d=>by
   cases q:H b with
   |none=>rfl
   |some u=>
    have e':b=a:=hA b (by rw [q];simp)
    subst e'
    rw [ha] at e;cases e
    have d':Data.seq vs.toArray _=Data.dict es ep:=d
    cases d'
  have nsK:∀{b:Addr} {m:Str→Option Value},s₁.heap.Ns b m→(hidT s₁.heap H).Ns b m:=fun{b m} ⟨o,es,ep,e,d,r⟩=>⟨o,es,ep,ak e (noA e d),d,r⟩
  have hKb:K.In (hidT s₁.heap H):=fun b o e=>ak (KX b o e) (by
   cases q:H b with
   |none=>rfl
   |some u=>
    have e':b=a:=hA b (by rw [q];simp)
    subst e'
    rw [hK (by rw [q];simp)] at e;cases e)
  have hM:Mod K mg (hidT s₁.heap H):=⟨hKb,nsK hns,⟨mb,nsK hb,hbb⟩,let⟨mc,h1,h2⟩:=du;⟨mc,nsK h1,h2⟩⟩
  have e0:Env0 P w K mg (hidT s₁.heap H) callerA [] s₁ H:=⟨rfl,hM,fun b o e=>ce_3 e,Nat.le_of_eq (bq_8 _ _),trivial,fun b hb=>absurd (show b∈([]:List Addr) from hb) (by simp),hok, .of_eq hg⟩
  refine codeAny_mono ((F _ hKb (nsK hns)).run callerA [] s₁ H ⟨[.ref a], []⟩ [.ref a] [.ref a] _ _ hr e0 (cu s₁ (.ref a)) (.cons rfl .nil) (hsp H hO hS)) fun r s' h=> ?_
  cases r with
  |error e=>exact(hCX H e s' h).elim
  |ok fl=>
   cases fl with
   |next=>exact False.elim h
   |brk=>exact False.elim h
   |cont=>exact False.elim h
   |ret u=>
    obtain⟨v,H',os,bare,un,eh,r',q⟩:=h
    have q':v= .bl true:=q
    subst q'
    obtain rfl:u=Value.bool true:=r'
    refine⟨rfl,OldK.of_keep fun b o e=> ?_,os,bare⟩
    cases q:H b with
    |none=>exact un.keep b o e q (by intro z;exact absurd (show b∈([]:List Addr) from z) (by simp)) (by simp)
    |some u=>
     rcases hO b with z|⟨ob,xs,z⟩
     ·rw [q] at z;cases z
     ·have z2:=un.frzs b ob _ z
      obtain⟨e1,_⟩:=hok b _ z
      obtain⟨e2,_⟩:=eh b _ z2
      rw [e] at e1;cases e1
      exact e2
 cases hk:K.lookup a with
 |some o=>
  
  have e:=KX a o hk
  rw [ha] at e
  cases e
  refine core (fun _=>none) (fun _=> .inl rfl) (.inr ⟨_,vs.toArray,_,hk,rfl,rfl,rfl,by rw [List.size_toArray,eg];exact hl,by simpa using rv⟩) (fun b u z=>by have z':(none:Option HO)=some u:=z;cases z') (fun b z=>absurd rfl z) fun z=>absurd rfl z
 |none=>
  refine core (fun b=>if b=a then some (.frz {cls:= .type "list",data:= .seq vs.toArray} (.lst (ns.map V.int))) else none) (fun b=> ?_) (.inl (.inr ⟨{cls:= .type "list",data:= .seq vs.toArray},if_pos rfl⟩)) (fun b u z=> ?_) (fun b z=> ?_) fun _=>hk
  ·by_cases hb:b=a
   ·exact .inr ⟨_,_,if_pos hb⟩
   ·exact .inl (if_neg hb)
  ·by_cases hb:b=a
   ·have z':=(if_pos hb).symm.trans z
    cases z'
    subst hb
    exact⟨ha,by rw [List.length_map];exact hl,vs,_,rv,ha⟩
   ·have z':=(if_neg hb).symm.trans z
    cases z'
  ·by_cases hb:b=a
   ·exact hb
   ·exact absurd (if_neg hb) z
theorem cg_0{l:PySem.W.OpenLaw}{n k:Nat}{q:Program}{loose:List Str}{XP:(Str→Option Value)→Heap→Prop}{YP:World→Heap→Prop}{d:DefRec}{K:Params→Frag}{CX:World→CXT}{sp:World→Sp}{x:Str}
  (hn:l.most=some n) (hn2:n≤sizeLine) (hdf:d.params.defaults= []) (hr:Room k callerA)
  (hY:∀(w:World) (h:Heap),YP w h→(K w.params).In h)
  (F:∀(w:World) (mg:Str→Option Value) (fa:Addr) (h:Heap),(K w.params).In h→h.Ns mainGlobals mg→mg d.name=some (.ref fa)→
   ∃fd:FuncData,(∀(s:Shared) (u:Value),BindsTo s fd ⟨[u], []⟩ [(x,u)])∧
    ∀base:Heap,(K w.params).In base→base.Ns mainGlobals mg→FnOk l.prog w (K w.params) mg base (CX w) k fa fd [x] (sp w))
  (hsp:∀(w:World) (H:Hp) (a:Addr) (ns:List Int),ns.length≤n→Only H→SqL (K w.params) H a (ns.map V.int)→sp w [.ref a] H (fun v _=>v= .bl true) fun _ _ _=>False)
  (hCX:∀(w:World) (H:Hp) (s:Shared) (e:Value) (s':Shared),CX w [] H s (fun _ _ _=>False) e s'→False):
  PySem.W.WalkO q loose XP YP l.row.toRowW d [] (fun f vs=>PySem.call f vs):=by
 refine Att.attach_call hn hdf fun w s₀ s₁ mg mb fa o pm cd doc a vs ns G Y ho hd hcd hmg bc hints zk hg=> ?_
 have KX:=hY w _ Y
 obtain⟨fd,hb,hF⟩:=F w mg fa _ KX G.T.g hmg
 exact bw_6 KX G.T.g G.T.b G.T.builtins G.T.nolimit hg bc hints (Nat.le_trans zk hn2) hr hF hb (fun H hO hS=>hsp w H a ns zk hO hS) fun H e s'=>hCX w H s₁ e s'
def g_1(s:Stmt):Arguments:=match s with
 | .FunctionDef _ a _ _ _ _ _ _ _ _=>a
 |_=>{posonlyargs:= [],args:= [],vararg:=none,kwonlyargs:= [],kw_defaults:= [],kwarg:=none,defaults:= []}
def d_7(s:Stmt):List Stmt:=match s with
 | .FunctionDef _ _ b _ _ _ _ _ _ _=>b
 |_=> []
def a_8(s:Stmt):Scope:=match s with
 | .FunctionDef _ _ _ _ _ _ sc _ _ _=>sc
 |_=>{kind:= .function,names:= [],isGenerator:=false,isCoroutine:=false}
abbrev CX0:CXT:=fun _ _ _ _ _ _=>False
abbrev E0:XK:=fun _ _ _=>False
structure Fun(K:Frag)(x qual:Str)(st:Stmt)(f:Addr)(fd:FuncData):Prop where
 ex:∃(oc:Value) (od:Option Addr) (kV doc pm:Value) (an:Option Addr) (zn ct:Value) (osl:Array (Option Value)),
  fd=fnOf x qual (g_1 st) (d_7 st) (a_8 st) .none kV doc pm an zn ct∧K.lookup f=some ⟨oc,od, .func fd,osl⟩∧codeIn K zn qual=true
 kp:keepIn K (.ref f)=true
section
variable{P:Program}{w:World}{K:Frag}{mg:Str→Option Value}{base:Heap}
theorem Fun.ok{x qual:Str}{st:Stmt}{f:Addr}{fd:FuncData}{N ps:List Str}{k:Nat}{sp:Sp}(F:Fun K x qual st f fd)(S:FnScope N ps (a_8 st))(len:∀vs H Q E,sp vs H Q E→vs.length=ps.length)
  (zj:∀(zn:Value) (A:Around) (outer:List Env) (s:Shared) (H:Hp) (vs:List V) (Q:VK) (E:XK),Room k (A.deeper (envOfC qual (a_8 st) s.heap.objs.size f zn))→sp vs H Q E→
   ∃t,PSs (z_9 CX0 P w K mg base N qual (a_8 st) f zn A outer s H E).nox (d_7 st) t∧t {nx:=fun _ H'=>Q .non H',rt:=Q} (h_7 N vs) H):FnOk P w K mg base CX0 (k + 1) f fd ps sp:=by
 obtain⟨oc,od,kV,doc,pm,an,zn,ct,osl,rfl,lk,hcd⟩:=F.ex
 refine cw_1 lk hcd S len fun A outer s H vs Q E hr hsp=> ?_
 obtain⟨t,h,q⟩:=zj zn A outer s H vs Q E hr hsp
 exact⟨t,h.nox,q⟩
theorem Fun.binds{x qual:Str}{st:Stmt}{f:Addr}{fd:FuncData}{ps:List Str}(F:Fun K x qual st f fd)
  (h:∀(kV doc pm:Value) (an:Option Addr) (zn ct:Value) (us:List Value),us.length=ps.length→bindArgs (fnOf x qual (g_1 st) (d_7 st) (a_8 st) .none kV doc pm an zn ct) ⟨us, []⟩=pure (ps.zip us)):Binds K fd ps []:=by
 obtain⟨oc,od,kV,doc,pm,an,zn,ct,osl,rfl,lk,hcd⟩:=F.ex
 exact .all (h kV doc pm an zn ct)
theorem al_5{x qual:Str}{st:Stmt}{f:Addr}{oc:Value}{od an:Option Addr}{osl:Array (Option Value)}{kV doc pm zn ct:Value}(l:K.lookup f=some ⟨oc,od, .func (fnOf x qual (g_1 st) (d_7 st) (a_8 st) .none kV doc pm an zn ct),osl⟩)
  (c:codeIn K zn qual=true) (k:keepIn K (.ref f)=true):Fun K x qual st f (fnOf x qual (g_1 st) (d_7 st) (a_8 st) .none kV doc pm an zn ct):=⟨⟨oc,od,kV,doc,pm,an,zn,ct,osl,rfl,l,c⟩,k⟩
end
section
variable{X:Cx}
end
def Same(H H':Hp):Prop:=∀b o,H b=some o→H' b=some o
theorem Same.refl(H:Hp):Same H H:=fun _ _ h=>h
theorem Same.trans{H H1 H2:Hp}(a:Same H H1)(b:Same H1 H2):Same H H2:=fun c o h=>b c o (a c o h)
theorem Same.free{H H':Hp}(e:Same H H'){l:Addr}(h:H' l=Option.none):H l=Option.none:=by
 cases q:H l with
 |none=>rfl
 |some o=>
  rw [e l o q] at h
  cases h
theorem Same.seq{K:Frag}{H H':Hp}{a:Addr}{xs:List V}(e:Same H H')(h:SqL K H a xs):SqL K H' a xs:=by
 rcases h with(h|⟨o,h⟩)|h
 ·exact .inl (.inl (e _ _ h))
 ·exact .inl (.inr ⟨o,e _ _ h⟩)
 ·exact .inr h
end L2
namespace L3
open PySem PySem.Spec PyProof.Rows L2
variable{K:Frag}{fd:FuncData}{mg:Str→Option Value}{P:Program}{vs:List V}{us:List Value}{base:Heap}{H:Hp}{X:Cx}{pos:Pos}{v:V}
abbrev Sg:=L2.St
inductive D where
 |non|bl (b:Bool)|int (i:Int)|str (x:Str)|lst (ds:List D)|tup (ds:List D)|dic (kvs:List (Key×D))
 |exn (c:Str) (ns:List Str) (vs:List D)|obj (c:Str) (ns:List Str) (vs:List D)
structure Xn where
 c:Str
 ns:List Str
 vs:List D
inductive R(α:Type) where
 |ok (a:α)|ex (x:Xn)|no
namespace R
def bind{α β:Type}(r:R α)(k:α→R β):R β:=match r with
 | .ok a=>k a
 | .ex x=> .ex x
 | .no=> .no
@[simp] theorem bind_ok{α β:Type}(a:α)(k:α→R β):(R.ok a).bind k=k a:=rfl
@[simp] theorem bind_ex{α β:Type}(x:Xn)(k:α→R β):(R.ex x).bind k= .ex x:=rfl
@[simp] theorem bind_no{α β:Type}(k:α→R β):(R.no).bind k= .no:=rfl
end R
inductive Tn where
 |sh (d:D)|lst (ts:List Tn)|tup (ts:List Tn)|dic (zm:List (Key×Tn))|obj (c:Str) (ns:List Str) (ts:List Tn)
mutual
def Tn.d:Tn→D
 | .sh d=>d
 | .lst ts=> .lst (Tn.ds ts)
 | .tup ts=> .tup (Tn.ds ts)
 | .dic zm=> .dic (Tn.ks zm)
 | .obj c ns ts=> .obj c ns (Tn.ds ts)
def Tn.ds:List Tn→List D
 | []=> []
 |t::ts=>t.d::Tn.ds ts
def Tn.ks:List (Key×Tn)→List (Key×D)
 | []=> []
 |(k,t)::ts=>(k,t.d)::Tn.ks ts
end
def Tn.of:D→Tn
 | .lst ds=> .lst (ds.map .sh)
 | .dic kvs=> .dic (kvs.map fun p=>(p.1, .sh p.2))
 | .obj c ns vs=> .obj c ns (vs.map .sh)
 |d=> .sh d
theorem Tn.ds_sh:∀ds:List D,Tn.ds (ds.map .sh)=ds
 | []=>rfl
 |d::ds=>by
  show(Tn.sh d).d::Tn.ds (ds.map .sh)=_
  rw [Tn.ds_sh ds];rfl
theorem Tn.ks_sh:∀kvs:List (Key×D),Tn.ks (kvs.map fun p=>(p.1,Tn.sh p.2))=kvs
 | []=>rfl
 |(k,d)::kvs=>by
  show(k,(Tn.sh d).d)::Tn.ks (kvs.map fun p=>(p.1,Tn.sh p.2))=_
  rw [Tn.ks_sh kvs];rfl
theorem Tn.ks_fst:∀zm:List (Key×Tn),(Tn.ks zm).map (·.1)=zm.map (·.1)
 | []=>rfl
 |(k,t)::zm=>by show k::(Tn.ks zm).map (·.1)=_;rw [Tn.ks_fst zm];rfl
theorem Tn.ks_snd:∀zm:List (Key×Tn),(Tn.ks zm).map (·.2)=Tn.ds (zm.map (·.2))
 | []=>rfl
 |(k,t)::zm=>by show t.d::(Tn.ks zm).map (·.2)=_;rw [Tn.ks_snd zm];rfl
theorem Tn.of_d(d:D):(Tn.of d).d=d:=by
 cases d with
 |lst ds=>show D.lst (Tn.ds (ds.map .sh))=_;rw [Tn.ds_sh]
 |dic kvs=>show D.dic (Tn.ks (kvs.map fun p=>(p.1, .sh p.2)))=_;rw [Tn.ks_sh]
 |obj c ns vs=>show D.obj c ns (Tn.ds (vs.map .sh))=_;rw [Tn.ds_sh]
 |_=>rfl
inductive W where
 |sh (d:D)|ow (d:D)|tr (t:Tn)
def W.d:W→D
 | .sh d=>d
 | .ow d=>d
 | .tr t=>t.d
@[simp] theorem W.d_sh(d:D):(W.sh d).d=d:=rfl
@[simp] theorem W.d_ow(d:D):(W.ow d).d=d:=rfl
@[simp] theorem W.d_tr(t:Tn):(W.tr t).d=t.d:=rfl
def ClsAt(K:Frag)(c:Str)(C:Addr):Prop:=nsIn K mainGlobals c=some (some (.ref C))
def XO(a C:Addr)(dx:Option Addr):HO:= .ext fun h=>∃us sl,h.get? a=some ⟨.ref C,dx, .fields us,sl⟩
mutual
inductive Has(K:Frag)(G:Hp):V→D→Prop where
 |non:Has K G .non .non
 |bl (b:Bool):Has K G (.bl b) (.bl b)
 |int (i:Int):Has K G (.int i) (.int i)
 |str (x:Str):Has K G (.str x) (.str x)
 |lst {a:Addr} {vs:List V} {ds:List D} (h:SqL K G a vs) (r:HasL K G vs ds):Has K G (.ref a) (.lst ds)
 |tup {a:Addr} {vs:List V} {ds:List D} (h:SqT K G a vs) (r:HasL K G vs ds):Has K G (.ref a) (.tup ds)
 |exn0 {a C:Addr} {c:Str} (hc:ClsAt K c C) (h:G a=some (XO a C none)):Has K G (.ref a) (.exn c [] [])
 |exn1 {a C d:Addr} {c:Str} {ns:List Str} {us:List V} {vs:List D} (hc:ClsAt K c C) (h:G a=some (XO a C (some d))) (hd:G d=some (.xd (ns.zip us))) (hl:ns.length=us.length) (r:HasL K G us vs):Has K G (.ref a) (.exn c ns vs)
 |dic {a:Addr} {kvs:List (Key×V)} {kds:List (Key×D)} (h:Rd G a (.dK kvs)) (hk:kvs.map (·.1)=kds.map (·.1)) (r:HasL K G (kvs.map (·.2)) (kds.map (·.2))):Has K G (.ref a) (.dic kds)
 |obj {a C dx:Addr} {c:Str} {ns:List Str} {us:List V} {vs:List D} (hc:ClsAt K c C) (h:G a=some (.ins C dx (ns.zip us))) (hl:ns.length=us.length) (r:HasL K G us vs):Has K G (.ref a) (.obj c ns vs)
inductive HasL(K:Frag)(G:Hp):List V→List D→Prop where
 |nil:HasL K G [] []
 |cons {v:V} {d:D} {vs:List V} {ds:List D} (h:Has K G v d) (r:HasL K G vs ds):HasL K G (v::vs) (d::ds)
end
abbrev AS:=Addr→Prop
mutual
inductive Ow(K:Frag)(G H:Hp):V→Tn→AS→Prop where
 |sh {v:V} {d:D} {S:AS} (h:Has K G v d):Ow K G H v (.sh d) S
 |lst {a:Addr} {vs:List V} {ts:List Tn} {S S1:AS} (h:H a=some (.lst vs)) (ha:S a) (sub:∀b,S1 b→S b∧b≠a) (r:OwL K G H vs ts S1):Ow K G H (.ref a) (.lst ts) S
 |tup {a:Addr} {vs:List V} {ts:List Tn} {S S1:AS} (h:H a=some (.tup vs)) (ha:S a) (sub:∀b,S1 b→S b∧b≠a) (r:OwL K G H vs ts S1):Ow K G H (.ref a) (.tup ts) S
 |dic {a:Addr} {kvs:List (Key×V)} {zm:List (Key×Tn)} {S S1:AS} (h:H a=some (.dK kvs)) (hk:kvs.map (·.1)=zm.map (·.1)) (ha:S a) (sub:∀b,S1 b→S b∧b≠a) (r:OwL K G H (kvs.map (·.2)) (zm.map (·.2)) S1):Ow K G H (.ref a) (.dic zm) S
 |obj {a C dx:Addr} {c:Str} {ns:List Str} {us:List V} {ts:List Tn} {S S1:AS} (hc:ClsAt K c C) (h:H a=some (.ins C dx (ns.zip us))) (hl:ns.length=us.length) (ha:S a) (sub:∀b,S1 b→S b∧b≠a) (r:OwL K G H us ts S1):Ow K G H (.ref a) (.obj c ns ts) S
inductive OwL(K:Frag)(G H:Hp):List V→List Tn→AS→Prop where
 |nil {S:AS}:OwL K G H [] [] S
 |cons {v:V} {t:Tn} {vs:List V} {ts:List Tn} {S S1 S2:AS} (h:Ow K G H v t S1) (r:OwL K G H vs ts S2) (dj:∀b,S1 b→S2 b→False) (s1:∀b,S1 b→S b) (s2:∀b,S2 b→S b):OwL K G H (v::vs) (t::ts) S
end
theorem Same.rdD{H H':Hp}{a:Addr}{u:HO}(e:Same H H')(h:Rd H a u):Rd H' a u:=by
 rcases h with h|⟨o,h⟩
 ·exact .inl (e _ _ h)
 ·exact .inr ⟨o,e _ _ h⟩
theorem Same.tupS{H H':Hp}{a:Addr}{xs:List V}(e:Same H H')(h:SqT K H a xs):SqT K H' a xs:=by
 rcases h with(h|⟨o,h⟩)|h
 ·exact .inl (.inl (e _ _ h))
 ·exact .inl (.inr ⟨o,e _ _ h⟩)
 ·exact .inr h
mutual
theorem Has.mono{G G':Hp}(e:Same G G'):∀{v:V} {d:D},Has K G v d→Has K G' v d
 |_,_, .non=> .non
 |_,_, .bl b=> .bl b
 |_,_, .int i=> .int i
 |_,_, .str x=> .str x
 |_,_, .lst h r=> .lst (e.seq h) (HasL.mono e r)
 |_,_, .tup h r=> .tup (Same.tupS e h) (HasL.mono e r)
 |_,_, .exn0 hc h=> .exn0 hc (e _ _ h)
 |_,_, .exn1 hc h hd hl r=> .exn1 hc (e _ _ h) (e _ _ hd) hl (HasL.mono e r)
 |_,_, .dic h hk r=> .dic (Same.rdD e h) hk (HasL.mono e r)
 |_,_, .obj hc h hl r=> .obj hc (e _ _ h) hl (HasL.mono e r)
theorem HasL.mono{G G':Hp}(e:Same G G'):∀{vs:List V} {ds:List D},HasL K G vs ds→HasL K G' vs ds
 |_,_, .nil=> .nil
 |_,_, .cons h r=> .cons (Has.mono e h) (HasL.mono e r)
end
theorem HasL.length{G:Hp}:∀{vs:List V} {ds:List D},HasL K G vs ds→vs.length=ds.length
 |_,_, .nil=>rfl
 |_,_, .cons _ r=>by rw [List.length_cons,List.length_cons,r.length]
theorem HasL.append{G:Hp}:∀{vs ws:List V} {ds es:List D},HasL K G vs ds→HasL K G ws es→HasL K G (vs ++ ws) (ds ++ es)
 |_,_,_,_, .nil,s=>s
 |_,_,_,_, .cons h r,s=> .cons h (r.append s)
theorem HasL.get{G:Hp}:∀{vs:List V} {ds:List D} {i:Nat} {d:D},HasL K G vs ds→ds[i]? =some d→∃v,vs[i]? =some v∧Has K G v d
 |_,_,_,_, .nil,e=>by simp at e
 |_,_,0,_, .cons h _,e=>by simp at e;subst e;exact⟨_,rfl,h⟩
 |_,_,i + 1,d, .cons _ r,e=>by
  obtain⟨u,h1,h2⟩:=HasL.get (i:=i) (d:=d) r (by simpa using e)
  exact⟨u,by simpa using h1,h2⟩
theorem HasL.take{G:Hp}:∀{vs:List V} {ds:List D} (n:Nat),HasL K G vs ds→HasL K G (vs.take n) (ds.take n)
 |_,_,0,_=> .nil
 |_,_,_ + 1, .nil=> .nil
 |_,_,n + 1, .cons h r=> .cons h (HasL.take n r)
theorem HasL.drop{G:Hp}:∀{vs:List V} {ds:List D} (n:Nat),HasL K G vs ds→HasL K G (vs.drop n) (ds.drop n)
 |_,_,0,r=>r
 |_,_,_ + 1, .nil=> .nil
 |_,_,n + 1, .cons _ r=>HasL.drop n r
theorem HasL.set{G:Hp}{d:D}(h:Has K G v d):∀{vs:List V} {ds:List D} (i:Nat),HasL K G vs ds→HasL K G (vs.set i v) (ds.set i d)
 |_,_,_, .nil=> .nil
 |_,_,0, .cons _ r=> .cons h r
 |_,_,i + 1, .cons q r=> .cons q (HasL.set h i r)
mutual
theorem Ow.mono{G G' H H':Hp}(e:Same G G'):∀{v:V} {d:Tn} {S S':AS},Ow K G H v d S→(∀b o,S b→H b=some o→H' b=some o)→(∀b,S b→S' b)→Ow K G' H' v d S'
 |_,_,_,_, .sh h,_,_=> .sh (h.mono e)
 |_,_,_,_, .lst h ha sub r,f,i=> .lst (f _ _ ha h) (i _ ha) (fun b hb=>⟨i b (sub b hb).1,(sub b hb).2⟩) (OwL.mono e r (fun b o hb q=>f b o (sub b hb).1 q) fun _ q=>q)
 |_,_,_,_, .tup h ha sub r,f,i=> .tup (f _ _ ha h) (i _ ha) (fun b hb=>⟨i b (sub b hb).1,(sub b hb).2⟩) (OwL.mono e r (fun b o hb q=>f b o (sub b hb).1 q) fun _ q=>q)
 |_,_,_,_, .dic h hk ha sub r,f,i=> .dic (f _ _ ha h) hk (i _ ha) (fun b hb=>⟨i b (sub b hb).1,(sub b hb).2⟩) (OwL.mono e r (fun b o hb q=>f b o (sub b hb).1 q) fun _ q=>q)
 |_,_,_,_, .obj hc h hl ha sub r,f,i=> .obj hc (f _ _ ha h) hl (i _ ha) (fun b hb=>⟨i b (sub b hb).1,(sub b hb).2⟩) (OwL.mono e r (fun b o hb q=>f b o (sub b hb).1 q) fun _ q=>q)
theorem OwL.mono{G G' H H':Hp}(e:Same G G'):∀{vs:List V} {ds:List Tn} {S S':AS},OwL K G H vs ds S→(∀b o,S b→H b=some o→H' b=some o)→(∀b,S b→S' b)→OwL K G' H' vs ds S'
 |_,_,_,_, .nil,_,_=> .nil
 |_,_,_,_, .cons h r dj s1 s2,f,i=> .cons (Ow.mono e h (fun b o hb q=>f b o (s1 b hb) q) fun _ q=>q) (OwL.mono e r (fun b o hb q=>f b o (s2 b hb) q) fun _ q=>q) dj (fun b q=>i b (s1 b q)) fun b q=>i b (s2 b q)
end
mutual
theorem Ow.has{G G' H:Hp}(e:Same G G'):∀{v:V} {d:Tn} {S:AS},Ow K G H v d S→(∀b o,S b→H b=some o→G' b=some o)→Has K G' v d.d
 |_,_,_, .sh h,_=>h.mono e
 |_,_,_, .lst h ha sub r,f=> .lst (SqL.of (f _ _ ha h)) (OwL.has e r fun b o hb q=>f b o (sub b hb).1 q)
 |_,_,_, .tup h ha sub r,f=> .tup (SqT.of (f _ _ ha h)) (OwL.has e r fun b o hb q=>f b o (sub b hb).1 q)
 |_,_,_, .dic h hk ha sub r,f=> .dic (.inl (f _ _ ha h)) (by rw [Tn.ks_fst];exact hk) (by rw [Tn.ks_snd];exact OwL.has e r fun b o hb q=>f b o (sub b hb).1 q)
 |_,_,_, .obj hc h hl ha sub r,f=> .obj hc (f _ _ ha h) hl (OwL.has e r fun b o hb q=>f b o (sub b hb).1 q)
theorem OwL.has{G G' H:Hp}(e:Same G G'):∀{vs:List V} {ds:List Tn} {S:AS},OwL K G H vs ds S→(∀b o,S b→H b=some o→G' b=some o)→HasL K G' vs (Tn.ds ds)
 |_,_,_, .nil,_=> .nil
 |_,_,_, .cons h r dj s1 s2,f=> .cons (Ow.has e h fun b o hb q=>f b o (s1 b hb) q) (OwL.has e r fun b o hb q=>f b o (s2 b hb) q)
end
theorem OwL.of{G H:Hp}:∀{vs:List V} {ds:List D} {S:AS},HasL K G vs ds→OwL K G H vs (ds.map .sh) S
 |_,_,_, .nil=> .nil
 |_,_,_, .cons h r=> .cons (S1:=fun _=>False) (S2:=fun _=>False) (.sh h) (OwL.of r) (fun _ z _=>z) (fun _ z=>z.elim) fun _ z=>z.elim
theorem OwL.off{G H:Hp}:∀{vs:List V} {ds:List D} {S:AS},OwL K G H vs (ds.map .sh) S→HasL K G vs ds
 |_, [],_,h=>by cases h;exact .nil
 |_,d::ds,_,h=>by
  cases h with
  |cons h r dj s1 s2=>
   cases h with
   |sh h=>exact .cons h (OwL.off r)
theorem OwL.length{G H:Hp}:∀{vs:List V} {ds:List Tn} {S:AS},OwL K G H vs ds S→vs.length=ds.length
 |_,_,_, .nil=>rfl
 |_,_,_, .cons _ r _ _ _=>by rw [List.length_cons,List.length_cons,r.length]
theorem Ow.list{G H:Hp}{a:Addr}{ds:List D}{S:AS}(h:H a=some (.lst vs))(ha:S a)(r:HasL K G vs ds):Ow K G H (.ref a) (Tn.of (.lst ds)) S:=
 .lst (S1:=fun _=>False) h ha (fun _ z=>z.elim) (.of r)
theorem Ow.list_of{G H:Hp}{ds:List D}{S:AS}(t:Ow K G H v (Tn.of (.lst ds)) S):∃a vs,v= .ref a∧S a∧H a=some (.lst vs)∧HasL K G vs ds:=by
 cases t with
 |lst h ha sub r=>exact⟨_,_,rfl,ha,h,r.off⟩
theorem bw_7(kds:List (Key×D)):(kds.map fun p=>(p.1,Tn.sh p.2)).map (·.2)=(kds.map (·.2)).map Tn.sh:=by
 rw [List.map_map,List.map_map];rfl
theorem bn_1(kds:List (Key×D)):(kds.map fun p=>(p.1,Tn.sh p.2)).map (·.1)=kds.map (·.1):=by
 rw [List.map_map];rfl
theorem Ow.dict{G H:Hp}{a:Addr}{kvs:List (Key×V)}{kds:List (Key×D)}{S:AS}(h:H a=some (.dK kvs))(hk:kvs.map (·.1)=kds.map (·.1))(ha:S a)(r:HasL K G (kvs.map (·.2)) (kds.map (·.2))):Ow K G H (.ref a) (Tn.of (.dic kds)) S:=
 .dic (S1:=fun _=>False) h (by rw [bn_1];exact hk) ha (fun _ z=>z.elim) (by rw [bw_7];exact .of r)
theorem Ow.dict_of{G H:Hp}{kds:List (Key×D)}{S:AS}(t:Ow K G H v (Tn.of (.dic kds)) S):∃a kvs,v= .ref a∧S a∧H a=some (.dK kvs)∧kvs.map (·.1)=kds.map (·.1)∧HasL K G (kvs.map (·.2)) (kds.map (·.2)):=by
 generalize e:Tn.of (.dic kds)=t' at t
 cases t with
 |dic h hk ha sub r=>
  injection e with e
  subst e
  rw [bw_7] at r
  rw [bn_1] at hk
  exact⟨_,_,rfl,ha,h,hk,r.off⟩
 |_=>cases e
structure Step(G H G' H':Hp):Prop where
 hh:Same H H'
 gh:Same G' H'
 gg:Same G G'
 nw:∀b,G b=none→H b≠none→G' b=none
theorem Step.refl{G H:Hp}(h:Same G H):Step G H G H:=⟨Same.refl _,h,Same.refl _,fun _ e _=>e⟩
theorem Step.trans{G H G1 H1 G2 H2:Hp}(a:Step G H G1 H1)(b:Step G1 H1 G2 H2):Step G H G2 H2:=
 ⟨a.hh.trans b.hh,b.gh,a.gg.trans b.gg,fun c e n=>b.nw c (a.nw c e n) fun z=>n (a.hh.free z)⟩
theorem j_7{p:Addr}(h:H p=none)(o:HO):Same H (upd H p o):=fun b u q=>by rw [b_0 (b_8 q h)];exact q
theorem bw_8{G H:Hp}(h:Same G H)(p:Addr)(o:HO):Same (upd G p o) (upd H p o):=fun b u q=>by
 by_cases e:b=p
 ·subst e;rw [b_6] at q⊢;exact q
 ·rw [b_0 e] at q⊢;exact h b u q
theorem Step.new{G H:Hp}(h:Same G H){p:Addr}(e:H p=none)(o:HO):Step G H (L2.upd G p o) (L2.upd H p o):=
 ⟨j_7 e o,bw_8 h p o,j_7 (h.free e) o,fun b n z=>by
  by_cases q:b=p
  ·subst q;exact absurd e z
  ·rw [b_0 q];exact n⟩
theorem Step.own{G H:Hp}(h:Same G H){p:Addr}(e:H p=none)(o:HO):Step G H G (L2.upd H p o):=
 ⟨j_7 e o,h.trans (j_7 e o),Same.refl _,fun _ n _=>n⟩
theorem Step.give{G H:Hp}{p:Addr}{o:HO}(h:Same G H)(n:G p=none)(e:H p=some o):Same (L2.upd G p o) H∧Same G (L2.upd G p o):=
 ⟨fun b u q=>by
  by_cases z:b=p
  ·subst z;rw [b_6] at q;rw [e];exact q
  ·rw [b_0 z] at q;exact h b u q,j_7 n o⟩
open Classical in
def l_0(G H:Hp)(S:AS):Hp:=fun b=>if S b then H b else G b
def WP(K:Frag)(G H:Hp)(w:W)(Q:VK):Prop:=match w with
 | .sh d=>∀v G' H',Step G H G' H'→Has K G' v d→Q v H'
 | .ow d=>∀v S G' H',Step G H G' H'→(∀a,S a→H a=none∧G' a=none∧H' a≠none)→Ow K G' H' v (Tn.of d) S→Q v H'
 | .tr t=>∀v S G' H',Step G H G' H'→(∀a,S a→H a=none∧G' a=none∧H' a≠none)→Ow K G' H' v t S→Q v H'
structure EXT where
 p:Xn→Hp→Hp→Prop
 mono:∀x G H G' H',Step G H G' H'→p x G H→p x G' H'
def EX0:EXT:=⟨fun _ _ _=>False,fun _ _ _ _ _ _ h=>h⟩
abbrev EXS:=Sg→EXT
def l_5:EXS:=fun _=>EX0
def Out(K:Frag)(EX:EXT)(G H:Hp)(r:R W)(Q:VK):Prop:=match r with
 | .ok w=>WP K G H w Q
 | .ex x=>EX.p x G H
 | .no=>False
section
variable{K:Frag}{EX:EXT}{G H G' H':Hp}{Q Q':VK}{w:W}
theorem WP.mono(s:Step G H G' H')(h:WP K G H w Q):WP K G' H' w Q:=by
 cases w with
 |sh d=>exact fun v G2 H2 s2 r=>h v G2 H2 (s.trans s2) r
 |ow d=>exact fun v S G2 H2 s2 fr t=>h v S G2 H2 (s.trans s2) (fun a ha=>⟨s.hh.free (fr a ha).1,(fr a ha).2⟩) t
 |tr d=>exact fun v S G2 H2 s2 fr t=>h v S G2 H2 (s.trans s2) (fun a ha=>⟨s.hh.free (fr a ha).1,(fr a ha).2⟩) t
theorem Out.mono{r:R W}(s:Step G H G' H')(h:Out K EX G H r Q):Out K EX G' H' r Q:=by
 cases r with
 |ok w=>exact WP.mono s h
 |ex x=>exact EX.mono _ _ _ _ _ s h
 |no=>exact h
theorem WP.join{t:Tn}{S:AS}(h:∀v G' H',Step G H G' H'→Has K G' v t.d→Q v H')(s:Step G H G' H')(fr:∀a,S a→H a=none∧G' a=none∧H' a≠none)(t:Ow K G' H' v t S):Q v H':=by
 have sg:Same G' (l_0 G' H' S):=fun b o q=>by
  unfold l_0
  split
  ·rename_i hb;rw [(fr b hb).2.1] at q;cases q
  ·exact q
 refine h v (l_0 G' H' S) H' ⟨s.hh,fun b o q=> ?_,s.gg.trans sg,fun b n z=> ?_⟩ (t.has sg fun b o hb q=> ?_)
 ·unfold l_0 at q
  split at q
  ·exact q
  ·exact s.gh b o q
 ·unfold l_0
  split
  ·rename_i hb;exact absurd (fr b hb).1 z
  ·exact s.nw b n z
 ·unfold l_0
  rw [if_pos hb]
  exact q
theorem WP.intro(h:∀v G' H',Step G H G' H'→Has K G' v w.d→Q v H'):WP K G H w Q:=by
 cases w with
 |sh d=>exact h
 |ow d=>exact fun v S G' H' s fr t=>WP.join (t:=Tn.of d) (by rw [Tn.of_d];exact h) s fr t
 |tr d=>exact fun v S G' H' s fr t=>WP.join h s fr t
theorem WP.sh(h:WP K G H (.sh w.d) Q):WP K G H w Q:=WP.intro h
theorem WP.imp(h:WP K G H w Q)(i:∀v H',Q v H'→Q' v H'):WP K G H w Q':=by
 cases w with
 |sh d=>exact fun v G2 H2 s2 r=>i _ _ (h v G2 H2 s2 r)
 |ow d=>exact fun v S G2 H2 s2 fr t=>i _ _ (h v S G2 H2 s2 fr t)
 |tr d=>exact fun v S G2 H2 s2 fr t=>i _ _ (h v S G2 H2 s2 fr t)
theorem WP.use{d:D}(h:WP K G H (.sh d) Q)(s:Same G H)(r:Has K G v d):Q v H:=h v G H (Step.refl s) r
end
inductive ExcAt(K:Frag)(G:Hp):Value→Option Addr→Xn→Prop where
 |bare {C:Addr} {c:Str} (hc:ClsAt K c C):ExcAt K G (.ref C) none ⟨c, [], []⟩
 |with_ {C d:Addr} {c:Str} {ns:List Str} {us:List V} {vs:List D} (hc:ClsAt K c C) (hd:G d=some (.xd (ns.zip us))) (hl:ns.length=us.length) (r:HasL K G us vs):ExcAt K G (.ref C) (some d) ⟨c,ns,vs⟩
theorem ExcAt.mono{G G':Hp}(e:Same G G'){cls:Value}{dx:Option Addr}{x:Xn}(h:ExcAt K G cls dx x):ExcAt K G' cls dx x:=by
 cases h with
 |bare hc=>exact .bare hc
 |with_ hc hd hl r=>exact .with_ hc (e _ _ hd) hl (r.mono e)
def EXof(K:Frag)(E:XK):EXT:=⟨fun x G H=>∀cls dx G' H',Step G H G' H'→ExcAt K G' cls dx x→E cls dx H',fun _ _ _ _ _ s h cls dx G2 H2 s2=>h cls dx G2 H2 (s.trans s2)⟩
def EXE(K:Frag)(EX:EXT):XK:=fun cls dx H=>∃x G,Same G H∧ExcAt K G cls dx x∧EX.p x G H
theorem EXE.of{E:XK}{cls:Value}{dx:Option Addr}(h:EXE K (EXof K E) cls dx H):E cls dx H:=by
 obtain⟨x,G,s,e,q⟩:=h
 exact q cls dx G H (Step.refl s) e
theorem EXof.in{EX:EXT}{G H:Hp}{x:Xn}(q:EX.p x G H):(EXof K (EXE K EX)).p x G H:=fun _ _ G' H' st e=>⟨x,G',st.gh,e,EX.mono _ _ _ _ _ st q⟩
abbrev DE:=List (Option D)
abbrev FE:=DE→R W
abbrev FT:=DE→R Bool
abbrev FA:=DE→R (List D)
structure HasS(K:Frag)(G:Hp)(σ:Sg)(δ:DE):Prop where
 len:σ.length=δ.length
 get:∀(i:Nat) (d:D),δ[i]? =some (some d)→∃v,σ[i]? =some (some v)∧Has K G v d
theorem HasS.mono{G G':Hp}{σ:Sg}{δ:DE}(e:Same G G')(h:HasS K G σ δ):HasS K G' σ δ:=⟨h.len,fun i d q=>by
 obtain⟨v,e1,r⟩:=h.get i d q
 exact⟨v,e1,r.mono e⟩⟩
def tD(K:Frag)(EX:EXS)(f:FE):TE:=fun σ H Q=>∃G δ,Same G H∧HasS K G σ δ∧Out K (EX σ) G H (f δ) Q
def tDt(K:Frag)(EX:EXS)(f:FT):TT:=fun σ H Q=>∃G δ,Same G H∧HasS K G σ δ∧match f δ with
 | .ok b=>∀G' H',Step G H G' H'→Q b H'
 | .ex x=>(EX σ).p x G H
 | .no=>False
def tDa(K:Frag)(EX:EXS)(f:FA):TA:=fun σ H Q=>∃G δ,Same G H∧HasS K G σ δ∧match f δ with
 | .ok ds=>∀vs G' H',Step G H G' H'→HasL K G' vs ds→Q vs H'
 | .ex x=>(EX σ).p x G H
 | .no=>False
abbrev ED(X:Cx)(EX:EXS)(e:Expr)(f:FE):Prop:=PE X e (tD X.K EX f)
abbrev TD(X:Cx)(EX:EXS)(e:Expr)(f:FT):Prop:=PT X e (tDt X.K EX f)
abbrev AD(X:Cx)(EX:EXS)(es:List Expr)(f:FA):Prop:=PA X es (tDa X.K EX f)
theorem PE.imp{e:Expr}{t t':TE}(h:PE X e t)(i:∀σ H Q,t' σ H Q→t σ H Q):PE X e t':=fun zd s σ H Q I q=>h zd s σ H Q I (i σ H Q q)
theorem PT.imp{e:Expr}{t t':TT}(h:PT X e t)(i:∀σ H Q,t' σ H Q→t σ H Q):PT X e t':=fun zd s σ H Q I q=>h zd s σ H Q I (i σ H Q q)
theorem PW.imp{e:Expr}{t t':TT}(h:PW X e t)(i:∀σ H Q,t' σ H Q→t σ H Q):PW X e t':=fun wh zd s σ H Q I q=>h wh zd s σ H Q I (i σ H Q q)
theorem PA.imp{e:List Expr}{t t':TA}(h:PA X e t)(i:∀σ H Q,t' σ H Q→t σ H Q):PA X e t':=fun pos zd s σ H Q I q=>h pos zd s σ H Q I (i σ H Q q)
theorem PS.imp{e:Stmt}{t t':TS}(h:PS X e t)(i:∀D σ H,t' D σ H→t D σ H):PS X e t':=fun zd s σ H D I q=>h zd s σ H D I (i D σ H q)
theorem PSs.imp{e:List Stmt}{t t':TS}(h:PSs X e t)(i:∀D σ H,t' D σ H→t D σ H):PSs X e t':=fun zd s σ H D I q=>h zd s σ H D I (i D σ H q)
section
variable{K:Frag}{EX:EXS}{G H:Hp}{σ:Sg}{δ:DE}{Q:VK}
theorem tD.seq{f:FE}{k:W→R W}{P:VK}(g:Same G H)(s:HasS K G σ δ)(h:Out K (EX σ) G H ((f δ).bind k) Q)
  (i:∀w v G' H',f δ= .ok w→Step G H G' H'→Has K G' v w.d→Out K (EX σ) G' H' (k w) Q→P v H'):tD K EX f σ H P:=by
 refine⟨G,δ,g,s, ?_⟩
 cases e:f δ with
 |ok w=>
  rw [e] at h
  exact WP.intro fun v G' H' st r=>i w v G' H' e st r (Out.mono st h)
 |ex x=>rw [e] at h;exact h
 |no=>rw [e] at h;exact h
theorem tDt.seq{f:FT}{k:Bool→R W}{P:Bool→Hp→Prop}(g:Same G H)(s:HasS K G σ δ)(h:Out K (EX σ) G H ((f δ).bind k) Q)
  (i:∀b G' H',f δ= .ok b→Step G H G' H'→Out K (EX σ) G' H' (k b) Q→P b H'):tDt K EX f σ H P:=by
 refine⟨G,δ,g,s, ?_⟩
 cases e:f δ with
 |ok w=>
  rw [e] at h
  exact fun G' H' st=>i w G' H' e st (Out.mono st h)
 |ex x=>rw [e] at h;exact h
 |no=>rw [e] at h;exact h
theorem tDa.seq{f:FA}{k:List D→R W}{P:List V→Hp→Prop}(g:Same G H)(s:HasS K G σ δ)(h:Out K (EX σ) G H ((f δ).bind k) Q)
  (i:∀ds vs G' H',f δ= .ok ds→Step G H G' H'→HasL K G' vs ds→Out K (EX σ) G' H' (k ds) Q→P vs H'):tDa K EX f σ H P:=by
 refine⟨G,δ,g,s, ?_⟩
 cases e:f δ with
 |ok w=>
  rw [e] at h
  exact fun vs G' H' st r=>i w vs G' H' e st r (Out.mono st h)
 |ex x=>rw [e] at h;exact h
 |no=>rw [e] at h;exact h
end
theorem q_4{EX:EXT}{G H:Hp}{Q:VK}{ds:List D}(o:Out K EX G H (.ok (.ow (.lst ds))) Q)(g:Same G H)(r:HasL K G vs ds):∀p,H p=none→Q (.ref p) (upd H p (.lst vs)):=
 fun p hp=>o (.ref p) (fun b=>b=p) G _ (Step.own g hp _) (fun a e=>by subst e;exact⟨hp,g.free hp,by rw [b_6];simp⟩) (.list b_6 rfl r)
end L3
namespace L3
open PySem PySem.Spec PyProof.Rows L2
variable{K:Frag}{fd:FuncData}{mg:Str→Option Value}{P:Program}{vs:List V}{us:List Value}{base:Heap}{H:Hp}{X:Cx}{pos:Pos}{v:V}
structure Tr(h:Heap)(a C:Addr)(dx:Option Addr)(fl:Value)(T:Addr):Prop where
 ob:∃o us,h.get? a=some o∧o.cls= .ref C∧o.dict=dx∧o.data= .fields us∧us[1]? =some (.ref T)
 ne:T≠a
 tb:∃o us,h.get? T=some o∧o.data= .fields us∧us[3]? =some fl
structure KeepX(xs fr:List Addr)(h h':Heap):Prop where
 same:∀b o,b∉xs→b∉fr→h.get? b=some o→h'.get? b=some o
 slot:∀b o,b∉xs→h.get? b=some o→∃sl,h'.get? b=some {o with slots:=sl}
theorem KeepX.trans{xs ys fr:List Addr}{h1 h2 h3:Heap}(a:KeepX xs fr h1 h2)(b:KeepX ys fr h2 h3):KeepX (xs ++ ys) fr h1 h3:=
 ⟨fun c o n m e=>b.same c o (fun z=>n (List.mem_append_right _ z)) m (a.same c o (fun z=>n (List.mem_append_left _ z)) m e),fun c o n e=>by
  obtain⟨sl,e1⟩:=a.slot c o (fun z=>n (List.mem_append_left _ z)) e
  obtain⟨sl',e2⟩:=b.slot c _ (fun z=>n (List.mem_append_right _ z)) e1
  exact⟨sl',e2⟩⟩
theorem KeepX.of_same{xs fr:List Addr}{h h':Heap}(k:∀b o,b∉xs→h.get? b=some o→h'.get? b=some o):KeepX xs fr h h':=
 ⟨fun b o n _ e=>k b o n e,fun b o n e=>⟨o.slots,k b o n e⟩⟩
theorem KeepX.mono{xs ys fr:List Addr}{h h':Heap}(k:KeepX xs fr h h')(s:∀b∈xs,b∈ys):KeepX ys fr h h':=
 ⟨fun b o n m e=>k.same b o (fun z=>n (s b z)) m e,fun b o n e=>k.slot b o (fun z=>n (s b z)) e⟩
theorem bw_9(o:Obj)(f:Array Value→Array Value):(o.mapFields f).dict=o.dict:=by
 obtain⟨c,d,dt,sl⟩:=o
 cases dt <;> rfl
section
variable{M:Model}{A:Around}{E:Value→Shared→Prop}{s:Shared}{env:Env}{outer:List Env}{base:Heap}{L a C:Addr}{dx:Option Addr}{Q:Unit→Shared→Prop}
theorem bn_2{o:Obj}{us:Array Value}{head:Value}{b:Bool}(hfr:A.frames=some (env::outer))(hl:s.heap.FunFrames base (env::outer))(hf:env.frame=some L)
  (he:s.heap.get? a=some o) (hc:o.cls= .ref C) (hx:o.dict=dx) (hd:o.data= .fields us) (hz:1 < us.size)
  (h:∀h' T,s.heap.objs.size≤T→KeepX [a] (frs (env::outer)) s.heap h'→Tr h' a C dx (rawInt L) T→Q () {s with heap:=h'}):
  wpAny M A (do let fv←frameOf env;let pl←entryPlaceOf L b;let en←EntryCells.newEntry head fv .none (rawInt L) .none pl;setField (.ref a) 1 en) Q E s:=by
 have nfr:a∉frs (env::outer):=fun hm=>by
  obtain⟨_,u,hu,hn⟩:=hl.mem hm
  rw [he] at hu
  cases hu
  exact hn us hd
 refine wpAny_bind (wpAny_frameOf_fun hfr hl hf fun h1 so=> ?_)
 refine wpAny_bind (wpAny_entryPlaceOf fun pl hpl=> ?_)
 unfold EntryCells.newEntry newFields
 refine wpAny_bind (wpAny_newObj_type ?_ (hpl.sizeOk5 _ _ _ _ _))
 have e1:h1.get? a=some o:=(so.2.1 a nfr).trans he
 generalize hT:({cls:= .type "traceback",dict:=none,data:= .fields ([head, .ref L, .none,rawInt L, .none] ++ (if pl.isEmpty then List.replicate 6 Value.none else pl)).toArray}:Obj)=oT
 have eT:oT.data= .fields ([head, .ref L, .none,rawInt L, .none] ++ (if pl.isEmpty then List.replicate 6 Value.none else pl)).toArray:=by rw [←hT]
 have e2:(h1.push oT).get? a=some o:=Heap.get?_push_of_some oT e1
 refine wpAny_setField e2 hd hz ?_
 have sz:h1.objs.size=s.heap.objs.size:=so.1
 have ltA:a < s.heap.objs.size:=Heap.lt_size he
 have neT:h1.objs.size≠a:=fun z=>absurd ltA (by rw [←z,sz];exact Nat.lt_irrefl _)
 have d3:=Obj.data_mapFields hd (·.setIfInBounds 1 (Value.ref h1.objs.size))
 refine h _ h1.objs.size (by rw [sz];exact Nat.le_refl _) ⟨fun b u n m e=> ?_,fun b u n e=> ?_⟩ ⟨⟨_,_,Heap.get?_update_self _ e2 (Obj.isFreed_of_fields d3),(Obj.cls_mapFields _ _).trans hc,(bw_9 _ _).trans hx,d3, ?_⟩,neT,⟨oT,_, ?_,eT, ?_⟩⟩
 ·have nb:a≠b:=fun z=>n (by simp [z])
  rw [Heap.get?_update_other _ _ nb]
  exact Heap.get?_push_of_some oT ((so.2.1 b m).trans e)
 ·have nb:a≠b:=fun z=>n (by simp [z])
  obtain⟨sl,es⟩:=so.2.2 b u e
  exact⟨sl,by rw [Heap.get?_update_other _ _ nb];exact Heap.get?_push_of_some oT es⟩
 ·simp [hz]
 ·rw [Heap.get?_update_other _ _ (Ne.symm neT)]
  exact Heap.get?_push_size h1 (Obj.isFreed_of_fields eT)
 ·first|(simp;done)|(rcases hpl with rfl|⟨_,_,_,_,_,_,_,rfl⟩ <;> simp)
theorem bi_9{o:Obj}{us:Array Value}(hfr:A.frames=some (env::outer))(hl:s.heap.FunFrames base (env::outer))(hf:env.frame=some L)
  (he:s.heap.get? a=some o) (hc:o.cls= .ref C) (hx:o.dict=dx) (hd:o.data= .fields us) (h1:us[1]? =some .none)
  (h:∀h' T,s.heap.objs.size≤T→KeepX [a] (frs (env::outer)) s.heap h'→Tr h' a C dx (rawInt L) T→Q () {s with heap:=h'}):wpAny M A (noteFrame (.ref a) env) Q E s:=by
 unfold noteFrame
 simp only [hf]
 refine wpAny_bind (wpAny_field he hd h1 ?_)
 rw [if_neg (by decide)]
 exact bn_2 hfr hl hf he hc hx hd (Array.getElem?_eq_some_iff.mp h1).1 h
theorem as_5{T0:Addr}(hfr:A.frames=some (env::outer))(hl:s.heap.FunFrames base (env::outer))(hf:env.frame=some L)(t:Tr s.heap a C dx .none T0)
  (h:∀h' T,s.heap.objs.size≤T→KeepX [a,T0] (frs (env::outer)) s.heap h'→Tr h' a C dx (rawInt L) T→Q () {s with heap:=h'}):wpAny M A (noteFrame (.ref a) env) Q E s:=by
 obtain⟨⟨o,us,he,hc,hx,hd,h1⟩,ne,⟨oT,ws,hT,hdT,h3⟩⟩:=t
 unfold noteFrame
 simp only [hf]
 refine wpAny_bind (wpAny_field he hd h1 ?_)
 rw [if_pos (show(Value.ref T0 != Value.none)=true from by simp)]
 refine wpAny_bind (wpAny_field hT hdT h3 ?_)
 rw [if_neg (show¬((Value.none ==rawInt L)=true) from by simp [rawInt])]
 refine wpAny_bind (wpAny_setField hT hdT (Array.getElem?_eq_some_iff.mp h3).1 ?_)
 have oth:∀b,b≠T0→(s.heap.update T0 (Obj.mapFields (·.setIfInBounds 3 Value.none))).get? b=s.heap.get? b:=fun b hb=>Heap.get?_update_other _ _ (Ne.symm hb)
 have dq:∀b u,s.heap.get? b=some u→(∀zs,u.data≠ .fields zs)→b≠T0:=fun b u hb hn q=>by
  subst q
  rw [hT] at hb
  cases hb
  exact hn ws hdT
 refine bn_2 (s:={s with heap:=s.heap.update T0 (Obj.mapFields (·.setIfInBounds 3 Value.none))}) hfr (hl.of_keeps fun b u hb hn=>⟨u,(oth b (dq b u hb hn)).trans hb,rfl⟩) hf ((oth a (Ne.symm ne)).trans he) hc hx hd (Array.getElem?_eq_some_iff.mp h1).1 fun h' T n k tr=>h h' T ?_ ?_ tr
 ·have zz:(s.heap.update T0 (Obj.mapFields (·.setIfInBounds 3 Value.none))).objs.size=s.heap.objs.size:=Heap.size_update _ _ _
  rw [←zz]
  exact n
 ·have na:∀b,b∉ [a,T0]→b∉ [a]:=fun b nb z=>nb (by rw [List.mem_singleton.mp z];exact List.mem_cons_self)
  have nT:∀b,b∉ [a,T0]→b≠T0:=fun b nb z=>nb (by rw [z];simp)
  exact⟨fun b u nb m e=>k.same b u (na b nb) m ((oth b (nT b nb)).trans e),fun b u nb e=>k.slot b u (na b nb) ((oth b (nT b nb)).trans e)⟩
theorem q_5{T:Addr}{fl:Value}(t:Tr s.heap a C dx fl T)(h:∀h',(∀b o,b∉ [T]→s.heap.get? b=some o→h'.get? b=some o)→Tr h' a C dx .none T→Q () {s with heap:=h'}):wpAny M A (setFlight (.ref a) none) Q E s:=by
 obtain⟨⟨o,us,he,hc,hx,hd,h1⟩,ne,⟨oT,ws,hT,hdT,h3⟩⟩:=t
 have sz3:3 < ws.size:=(Array.getElem?_eq_some_iff.mp h3).1
 unfold setFlight
 refine wpAny_bind (wpAny_field he hd h1 ?_)
 rw [if_pos (show(Value.ref T != Value.none)=true from by simp)]
 refine wpAny_setField hT hdT sz3 (h _ (fun b u n e=> ?_) ⟨⟨o,us, ?_,hc,hx,hd,h1⟩,ne,⟨_,_,Heap.get?_update_self _ hT (Obj.isFreed_of_fields (Obj.data_mapFields hdT _)),Obj.data_mapFields hdT _, ?_⟩⟩)
 ·rw [Heap.get?_update_other _ _ (fun z=>n (by simp [z]))];exact e
 ·rw [Heap.get?_update_other _ _ ne];exact he
 ·simp [sz3]
end
def CXr(P:Program)(w:World):CXT:=fun outer H s E e s'=>∃a C dx T H',e= .ref a∧s'.os=s.os∧AllBare s'.gens∧Un (frs outer) [] H H' s.heap s'.heap∧HOk P w H' s'.heap∧
 Tr s'.heap a C dx .none T∧H' a=none∧H' T=none∧s.heap.objs.size≤a∧s.heap.objs.size≤T∧E (.ref C) dx H'
section
variable{X:Cx}{zd:List (Addr×Obj)}{σ:Sg}{H H':Hp}{s s':Shared}
theorem Inv.settle{ch:List Addr}{h2:Heap}(I:Inv X zd σ H s)(I':Inv X zd σ H' s')(n:∀b∈ch,s.heap.objs.size≤b∧H' b=none)(k:KeepX ch (frs X.stack) s'.heap h2):Inv X zd σ H' {s' with heap:=h2}:=by
 have trk:∀b u,H' b=some u→b∉ch∧b∉frs X.stack:=fun b u e=>⟨fun z=>(by rw [(n b z).2] at e;cases e),fun z=>(by rw [I'.stkFree b z] at e;cases e)⟩
 refine I'.step (g':=s'.gens) (d':=s'.drawn) (t':=s'.toks) (ch:=ch) (fun b hb=> ?_) (fun b o h1 h2 h3 e _=>k.same b o h3 (fun z=> ?_) e) (fun b o _ _ h3 e _=>k.slot b o h3 e) (fun _ _ _ _ z=>z) (fun b o h3 e=> ?_) (fun _ _ z=>z) (fun _ _ _ z=>z) (fun b ps z=>⟨#[],by rw [z];simp⟩) (fun m hm=> ?_) (fun b u e=> ?_) I'.bare
 ·have lb:=(n b hb).1
  refine⟨.inr (Nat.le_trans I.sz lb),fun z=> ?_,fun x c e z=> ?_,fun p hp z=> ?_⟩
  ·exact absurd (Nat.lt_of_lt_of_le I.lt lb) (by rw [z];exact Nat.lt_irrefl _)
  ·obtain⟨v,hv⟩:=I.cell x c e
   exact absurd (Nat.lt_of_lt_of_le hv.lt lb) (by rw [z];exact Nat.lt_irrefl _)
  ·exact absurd (Nat.lt_of_lt_of_le (Heap.lt_size (I.pin p hp).1) lb) (by rw [z];exact Nat.lt_irrefl _)
 ·rcases List.mem_cons.mp (I'.stkSub b z) with z|z
  ·exact h1 z
  ·exact h2 z
 ·obtain⟨sl,q⟩:=k.slot b o h3 e
  exact⟨_,q⟩
 ·obtain⟨o,es,ep,ho,r⟩:=hm
  have nl:X.env.locals∉ch:=fun z=>absurd (Nat.lt_of_lt_of_le I.lt (n _ z).1) (Nat.lt_irrefl _)
  obtain⟨sl,q⟩:=k.slot _ o nl ho
  exact⟨_,es,ep,q,r⟩
 ·refine(I'.hok b u e).stay (fun c v hc q=> ?_) (fun _ z=>z) fun _ _ z=>z
  rcases hc with rfl|hc
  ·exact k.same c v (trk c u e).1 (trk c u e).2 q
  ·exact k.same c v (trk c _ hc).1 (trk c _ hc).2 q
theorem Inv.raised{E:XK}{e:Value}(I:Inv X zd σ H s)(c:CXr X.prog X.w X.stack H s E e s'):∃a C dx T H',e= .ref a∧Inv X zd σ H' s'∧Tr s'.heap a C dx .none T∧H' a=none∧H' T=none∧s.heap.objs.size≤a∧s.heap.objs.size≤T∧E (.ref C) dx H':=by
 obtain⟨a,C,dx,T,H',e1,os,br,un,hok,tr,n1,n2,z1,z2,q⟩:=c
 exact⟨a,C,dx,T,H',e1,I.call' (ch:= []) os un hok br (fun b z=>absurd z (by simp)),tr,n1,n2,z1,z2,q⟩
end
section
variable{cm:Bool}{P:Program}{w:World}{K:Frag}{mg:Str→Option Value}{base:Heap}{N:List Str}{qual:Str}{scope:Scope}{f:Addr}{cd:Value}{A:Around}{outer:List Env}{s0:Shared}{H0:Hp}{E E':XK}
theorem bs_0{zd:List (Addr×Obj)}{σ:Sg}{s s':Shared}{e:Value}(I:Inv ({z_9 (CXr P w) P w K mg base N qual scope f cd A outer s0 H0 E with calm:=cm}:Cx) zd σ H s)
  (c:CXr P w ({z_9 (CXr P w) P w K mg base N qual scope f cd A outer s0 H0 E with calm:=cm}:Cx).stack H s E' e s') (i:∀cls dx H',E' cls dx H'→E cls dx H'):({z_9 (CXr P w) P w K mg base N qual scope f cd A outer s0 H0 E with calm:=cm}:Cx).xe e s':=by
 obtain⟨a,C,dx,T,H',rfl,I',tr,n1,n2,z1,z2,q⟩:=Inv.raised I c
 show wpAny (model P w) _ (leaving _ _) _ _ s'
 unfold leaving
 refine wpAny_bind (as_5 I'.ok.frames I'.stack rfl tr fun h1 T2 z3 k1 t1=> ?_)
 refine q_5 t1 fun h2 k2 t2=> ?_
 have zT2:H' T2=none:=I'.hok.fresh z3
 have J:Inv ({z_9 (CXr P w) P w K mg base N qual scope f cd A outer s0 H0 E with calm:=cm}:Cx) zd σ H' {s' with heap:=h2}:=by
  refine Inv.settle (ch:= [a,T] ++ [T2]) I I' (fun b hb=> ?_) (k1.trans (KeepX.of_same k2))
  have:b=a∨b=T∨b=T2:=by simpa using hb
  rcases this with rfl|rfl|rfl
  ·exact⟨z1,n1⟩
  ·exact⟨z2,n2⟩
  ·exact⟨Nat.le_trans (Nat.le_trans (Nat.le_refl _) z1) (Nat.le_trans (Nat.le_of_lt (Heap.lt_size tr.ob.choose_spec.choose_spec.1)) z3),zT2⟩
 exact⟨a,C,dx,T2,H',rfl,J.os,J.bare,J.base,J.hok,t2,n1,zT2,Nat.le_trans I.sz z1,Nat.le_trans I'.sz z3,i _ _ _ q⟩
theorem av_7{zd:List (Addr×Obj)}{σ:Sg}{H H':Hp}{s s':Shared}{a C:Addr}{dx:Option Addr}{o:Obj}{us:Array Value}(I:Inv ({z_9 (CXr P w) P w K mg base N qual scope f cd A outer s0 H0 E with calm:=cm}:Cx) zd σ H s)
  (I':Inv ({z_9 (CXr P w) P w K mg base N qual scope f cd A outer s0 H0 E with calm:=cm}:Cx) zd σ H' s') (he:s'.heap.get? a=some o) (hc:o.cls= .ref C) (hx:o.dict=dx) (hd:o.data= .fields us) (h1:us[1]? =some .none) (n1:H' a=none) (z1:s.heap.objs.size≤a) (q:E (.ref C) dx H'):
  ({z_9 (CXr P w) P w K mg base N qual scope f cd A outer s0 H0 E with calm:=cm}:Cx).xe (.ref a) s':=by
 show wpAny (model P w) _ (leaving _ _) _ _ s'
 unfold leaving
 refine wpAny_bind (bi_9 I'.ok.frames I'.stack rfl he hc hx hd h1 fun h1 T2 z3 k1 t1=> ?_)
 refine q_5 t1 fun h2 k2 t2=> ?_
 have zT2:H' T2=none:=I'.hok.fresh z3
 have J:Inv ({z_9 (CXr P w) P w K mg base N qual scope f cd A outer s0 H0 E with calm:=cm}:Cx) zd σ H' {s' with heap:=h2}:=by
  refine Inv.settle (ch:= [a] ++ [T2]) I I' (fun b hb=> ?_) (k1.trans (KeepX.of_same k2))
  have:b=a∨b=T2:=by simpa using hb
  rcases this with rfl|rfl
  ·exact⟨z1,n1⟩
  ·exact⟨Nat.le_trans z1 (Nat.le_trans (Nat.le_of_lt (Heap.lt_size he)) z3),zT2⟩
 exact⟨a,C,dx,T2,H',rfl,J.os,J.bare,J.base,J.hok,t2,n1,zT2,Nat.le_trans I.sz z1,Nat.le_trans I'.sz z3,q⟩
end
section
variable{prog:Program}{w:World}{A:Around}{E:Value→Shared→Prop}{h:Heap}{g:Array GenState}{d:Drawn}{t:Nat}{os:OsState}
variable{nm q:Str}{C N:Addr}{bs bm bmB:List Value}{bb:Bool}{sn:List Str}{sub:List Value}{ab:Bool}{col:Option Bool}{dd:Option Addr}{k0 k1 k2 k3 k5:Option Value}{B newId ag:String}
theorem bs_1(FB:ExcBaseFacts B newId ag bmB)(T:OwnTail h bmB bm){mN:Str→Option Value}{fI:Addr}{oI:Obj}{Q:PySem.Fin→Shared→Prop}
  (hC:h.get? C=some (excClassObj nm q C N bs bm bb sn sub ab col dd k0 k1 k2 k3 k5 newId)) (hn:h.Ns N mN) (hi:mN "__init__" =some (.ref fI)) (ho:h.get? fI=some oI) (hf:oI.cls= .type "function")
  (z:∀h' e,Heap.MadeExcOf h h' e (.ref C) us→h.objs.size≤e→wpAny (model prog w) A (call (.ref fI) (.ref e::us)) (fun r s'=>r= .none∧Q (.done (.ret (.ref e))) s') E ⟨h',g,d,t,os⟩) (hu:us.length≤sizeLine):
  wpAny (model prog w) A (Builtin.«type.__call__» ⟨.ref C::us, []⟩) Q E ⟨h,g,d,t,os⟩:=by
 wp_walk using wpAny_loadPart_at hC,wpAny_madeBy_exc hC
 refine codeAny_call_builtin_code (Code.quiet_builtin _ FB.quiet) (wpAny_check_new_subT FB T hC ?_)
 refine codeAny_exc_new_subT FB T hC ?_ hu
 show wpAny _ _ _ _ _ _
 generalize e1:({cls:= .type "tuple",data:= .seq us.toArray}:Obj)=o1
 generalize e2:({cls:= .ref C,data:= .fields #[.ref h.objs.size, .none, .none, .none, .bool false, .none]}:Obj)=o2
 have up:∀b o,h.get? b=some o→((h.push o1).push o2).get? b=some o:=fun b o e=>Heap.get?_push_of_some _ (Heap.get?_push_of_some _ e)
 have ge:((h.push o1).push o2).get? (h.objs.size + 1)=some o2:=by
  have:=Heap.get?_push_size (h.push o1) (o:=o2) (by rw [←e2];rfl)
  rwa [Heap.size_push] at this
 have gt:((h.push o1).push o2).get? h.objs.size=some o1:=Heap.get?_push_of_some _ (Heap.get?_push_size h (by rw [←e1];rfl))
 have hC1:=up _ _ hC
 have hn1:((h.push o1).push o2).Ns N mN:=hn.keeps up
 have cl:o2.cls= .ref C:=by rw [←e2]
 have hcC:List.contains (Value.ref C::bm) (.ref C)=true:=List.contains_iff_mem.mpr (.head _)
 unfold isInstance
 repeat (first|(with_reducible refine wpAny_loadPart_at ge ?_;rw [cl])|(with_reducible refine wpAny_isSubtype_exc hC1 ?_;rw [hcC])|wp_step)
 change wpAny _ _ (mroOf (.ref C) >>=fun l=>lookupAlong l _) _ _ _
 refine wpAny_bind (wpAny_mroOf_exc hC1 ?_)
 rw [lookupAlong_cons]
 refine wpAny_bind (wpAny_classOwn_exc hC1 hn1 ?_)
 rw [hi]
 refine wpAny_pure (wpAny_holding (wpAny_bind ?_))
 unfold bindSpecial
 refine wpAny_bind (wpAny_typeOf (T:= "function") ⟨_,up _ _ ho,hf⟩ ?_)
 rw [if_pos (by decide)]
 refine wpAny_pure (wpAny_bind (wpAny_mono (z _ (h.objs.size + 1) ⟨up,Heap.get?_none_of_le (Nat.le_succ _),h.objs.size,by rw [e2];exact ge,Heap.get?_none_of_le (Nat.le_refl _),by rw [e1];exact gt⟩ (Nat.le_succ _)) (fun r s' hr=> ?_) fun _ _ x=>x))
 obtain⟨rfl,hQ⟩:=hr
 wp_walk
 exact hQ
theorem bx_0(FB:ExcBaseFacts B newId ag bmB)(T:OwnTail h bmB bm){mN:Str→Option Value}{fI:Addr}{oI:Obj}{Q:Value→Shared→Prop}
  (hC:h.get? C=some (excClassObj nm q C N bs bm bb sn sub ab col dd k0 k1 k2 k3 k5 newId)) (hn:h.Ns N mN) (hi:mN "__init__" =some (.ref fI)) (ho:h.get? fI=some oI) (hf:oI.cls= .type "function")
  (z:∀h' e,Heap.MadeExcOf h h' e (.ref C) us→h.objs.size≤e→wpAny (model prog w) (A.under (.builtin "type.__call__" ⟨.ref C::us, []⟩)) (call (.ref fI) (.ref e::us)) (fun r s'=>r= .none∧Q (.ref e) s') E ⟨h',g,d,t,os⟩) (hu:us.length≤sizeLine):
  wpAny (model prog w) A (call (.ref C) us) Q E ⟨h,g,d,t,os⟩:=by
 have f1:=tc_lookup
 have f2:=tc_bind (.ref C)
 have isT:Shared.TypeIs ⟨h,g,d,t,os⟩ (.ref C) "type" :=⟨_,hC,rfl⟩
 refine wpAny_call (codeAny_of_tree (?_:wpAny _ _ (callAny (.ref C) _) _ _ _))
 wp_walk using wpAny_loadPart_at hC
 refine⟨rfl, ?_⟩
 exact codeAny_call_builtin_at (Code.quiet_builtin _ (by decide +kernel)) entry_typeCall (wpAny_check_type_call_sub hC (bs_1 FB T hC hn hi ho hf (fun h' e hm hz=>z h' e hm hz) hu))
theorem as_6{M:Model}{env:Env}{s:Shared}{x:Sem Value}{Q:Flow→Shared→Prop}(hb:bm.contains (.type "BaseException")=true)(hh:A.handled=none)
  (z:wpAny M A x (fun v s1=>∃e t dx,v= .ref e∧s1.heap.get? C=some (excClassObj nm q C N bs bm bb sn sub ab col dd k0 k1 k2 k3 k5 newId)∧
   s1.heap.get? e=some {cls:= .ref C,dict:=dx,data:= .fields #[.ref t, .none, .none, .none, .bool false, .none]}∧E (.ref e) s1) E s):wpAny M A (raiseStmt env (some x) none) Q E s:=by
 have hcB:(Value.ref C::bm).contains (.type "BaseException")=true:=by rw [List.contains_cons,hb,Bool.or_true]
 unfold raiseStmt
 refine wpAny_bind (wpAny_mono z (fun v s1 z1=> ?_) fun _ _ y=>y)
 obtain⟨e,t,dx,rfl,hC,he,hE⟩:=z1
 obtain⟨hp,g,d,tk,os⟩:=s1
 repeat (first|with_reducible refine wpAny_loadPart_at he ?_|with_reducible refine wpAny_loadPart_at hC ?_|(with_reducible refine wpAny_isSubtype_exc hC ?_;rw [hcB])|wp_step)
 exact wpAny_raiseNew_none hh hE
end
section
variable{X:Cx}{EX:EXS}{a b c:Expr}{f g h:FE}{pos:Pos}
def eVar(i:Nat):FE:=fun δ=>match δ[i]? with
 |some (some d)=> .ok (.sh d)
 |_=> .no
def eC(d:D):FE:=fun _=> .ok (.sh d)
theorem a_0(i:Nat){x:Str}(hN:X.N[i]? =some x:=by rfl)(hv:Vis X.env.scope x:=by first|exact Or.inl rfl|exact Or.inr (Or.inl rfl)|exact Or.inr (Or.inr rfl))(hd:(x ==("__debug__" :Str))=false:=by decide)
  (hcd:(x ==("__classdict__" :Str))=false:=by decide):ED X EX (.Name x pos) (eVar i):=
 PE.imp (m_9 hN hv hd hcd) fun σ H Q ⟨G,δ,g,s,o⟩=>by
  unfold eVar at o
  split at o
  ·rename_i d e
   obtain⟨v,e1,r⟩:=s.get i d e
   exact⟨v,e1,WP.use o g r⟩
  ·exact o.elim
theorem s_6{e:Expr}{d:D}(he:PE X e (tC v))(hd:∀G,Has X.K G v d):ED X EX e (eC d):=
 PE.imp he fun σ H Q ⟨G,δ,g,s,o⟩=>WP.use o g (hd G)
theorem a_4{i:Int}{j pos}:ED X EX (.Constant (.int i) j pos) (eC (.int i)):=s_6 cn_8 fun _=> .int i
theorem y_8{b:Bool}{j pos}:ED X EX (.Constant (.bool b) j pos) (eC (.bl b)):=s_6 cu_1 fun _=> .bl b
theorem ae_7{j pos}:ED X EX (.Constant .none j pos) (eC .non):=s_6 cn_9 fun _=> .non
theorem bj_0{x:Str}{j pos}:ED X EX (.Constant (.str x) j pos) (eC (.str x)):=s_6 co_0 fun _=> .str x
theorem x_4{x:Str}{i:Int}{t:Tok}(hg:Gl X x)(hm:X.mg x=some (.int i t))(hd:(x ==("__debug__" :Str))=false:=by decide):ED X EX (.Name x pos) (eC (.int i)):=s_6 (bm_1 (v:= .int i) hg hm ⟨t,rfl⟩ hd) fun _=> .int i
theorem bn_3{x:Str}{z:Str}{t:Tok}(hg:Gl X x)(hm:X.mg x=some (.str z t))(hd:(x ==("__debug__" :Str))=false:=by decide):ED X EX (.Name x pos) (eC (.str z)):=s_6 (bm_1 (v:= .str z) hg hm ⟨t,rfl⟩ hd) fun _=> .str z
def rD(K:Frag)(r:D→D→R W):R2:=fun x y H Q=>∃(EX:EXT) (G:Hp) (a b:D),Same G H∧Has K G x a∧Has K G y b∧Out K EX G H (r a b) Q
abbrev OpD(X:Cx)(f:Value→Value→Sem Value)(r:D→D→R W):Prop:=OpR X f (rD X.K r)
def eOp(r:D→D→R W)(f g:FE):FE:=fun δ=>(f δ).bind fun a=>(g δ).bind fun b=>r a.d b.d
theorem two{r:D→D→R W}{σ:Sg}{Q:VK}(q:tD K EX (eOp r f g) σ H Q):tOp (rD K r) (tD K EX f) (tD K EX g) σ H Q:=by
 obtain⟨G,δ,g0,s0,o⟩:=q
 exact tD.seq g0 s0 o fun w v G1 H1 _ st1 r1 o1=>tD.seq st1.gh (s0.mono st1.gg) o1 fun w2 v2 G2 H2 _ st2 r2 o2=>⟨_,G2,w.d,w2.d,st2.gh,r1.mono st2.gg,r2,o2⟩
theorem a_5{op:Operator}{r:D→D→R W}(ho:OpD X (binaryOp op) r)(ha:ED X EX a f)(hb:ED X EX b g):ED X EX (.BinOp a op b pos) (eOp r f g):=
 PE.imp (cv_0 ho ha hb) fun _ _ _ q=>two q
theorem n_0{op:CmpOp}{r:D→D→R W}(ho:OpD X (compareOp op) r)(ha:ED X EX a f)(hb:ED X EX b g)(hm:behindInMarks op b=false):ED X EX (.Compare a [op] [b] pos) (eOp r f g):=
 PE.imp (cf_0 ho ha hb hm) fun _ _ _ q=>two q
def boolD:D→R Bool
 | .bl b=> .ok b
 |_=> .no
def eTest(f:FE):FT:=fun δ=>(f δ).bind fun w=>boolD w.d
theorem cg_1{σ:Sg}{Q:Bool→Hp→Prop}(q:tDt K EX (eTest f) σ H Q):tD K EX f σ H fun x H'=>∃k,x= .bl k∧Q k H':=by
 obtain⟨G,δ,g0,s0,o⟩:=q
 refine⟨G,δ,g0,s0, ?_⟩
 unfold eTest at o
 cases e:f δ with
 |ok w=>
  rw [e] at o
  simp only [R.bind_ok] at o
  refine WP.intro fun v G' H' st r=> ?_
  revert r o
  cases w.d with
  |bl k=>intro o r;cases r;exact⟨k,rfl,o G' H' st⟩
  |_=>intro o _;exact False.elim o
 |ex x=>rw [e] at o;exact o
 |no=>rw [e] at o;exact o
theorem d_0{op:CmpOp}{r:D→D→R W}(ho:OpD X (compareOp op) r)(ha:ED X EX a f)(hb:ED X EX b g)(hm:behindInMarks op b=false):TD X EX (.Compare a [op] [b] pos) (eTest (eOp r f g)):=
 PT.imp (cf_1 ho ha hb hm) fun σ H Q q=>two (cg_1 q)
def av_8(r r':D→D→R W)(f g h:FE):FE:=fun δ=>(f δ).bind fun a=>(g δ).bind fun b=>(r a.d b.d).bind fun z=>(boolD z.d).bind fun k=>
 if k=true then(h δ).bind fun c=>r' b.d c.d else .ok (.sh (.bl false))
theorem cw_4{r r':D→D→R W}{σ:Sg}{Q:VK}(q:tD K EX (av_8 r r' f g h) σ H Q):bv_7 (rD K r) (rD K r') (tD K EX f) (tD K EX g) (tD K EX h) σ H Q:=by
 obtain⟨G,δ,g0,s0,o⟩:=q
 refine tD.seq g0 s0 o fun w v G1 H1 _ st1 r1 o1=>tD.seq st1.gh (s0.mono st1.gg) o1 fun w2 v2 G2 H2 _ st2 r2 o2=>⟨EX σ,G2,w.d,w2.d,st2.gh,r1.mono st2.gg,r2, ?_⟩
 revert o2
 cases r w.d w2.d with
 |ok z=>
  intro o2
  refine WP.intro fun v3 G3 H3 st3 r3=> ?_
  have o2:Out K (EX σ) G2 H2 ((boolD z.d).bind fun k=>if k=true then(h δ).bind fun c=>r' w2.d c.d else .ok (.sh (.bl false))) Q:=o2
  revert r3 o2
  cases z.d with
  |bl k=>
   intro r3 o2
   cases r3
   refine⟨k,rfl, ?_⟩
   cases k with
   |true=>
    rw [if_pos rfl]
    have o3:Out K (EX σ) G2 H2 ((h δ).bind fun c=>r' w2.d c.d) Q:=o2
    exact tD.seq st3.gh (s0.mono (st1.gg.trans (st2.gg.trans st3.gg))) (o3.mono st3) fun w4 v4 G4 H4 _ st4 r4 o4=>⟨_,G4,w2.d,w4.d,st4.gh,r2.mono (st3.gg.trans st4.gg),r4,o4⟩
   |false=>
    rw [if_neg Bool.false_ne_true]
    have o3:WP K G2 H2 (.sh (.bl false)) Q:=o2
    exact(o3.mono st3).use st3.gh (.bl false)
  |_=>intro _ o2;exact False.elim o2
 |ex x=>exact fun o2=>o2
 |no=>exact fun o2=>o2
theorem bx_1{op op':CmpOp}{r r':D→D→R W}(ho:OpD X (compareOp op) r)(ho':OpD X (compareOp op') r')(ha:ED X EX a f)(hb:ED X EX b g)(hc:ED X EX c h)
  (hm:lastMarks [op,op'] [b,c]=false:=by with_unfolding_all rfl):ED X EX (.Compare a [op,op'] [b,c] pos) (av_8 r r' f g h):=
 PE.imp (bv_8 ho ho' ha hb hc hm) fun _ _ _ q=>cw_4 q
abbrev TW(X:Cx)(EX:EXS)(e:Expr)(f:FT):Prop:=PW X e (tDt X.K EX f)
variable{p q:FT}{v_2:List Expr}
def tAndF(p q:FT):FT:=fun δ=>(p δ).bind fun b=>if b=true then q δ else .ok false
def tOrF(p q:FT):FT:=fun δ=>(p δ).bind fun b=>if b=true then .ok true else q δ
def tNotF(p:FT):FT:=fun δ=>(p δ).bind fun b=> .ok (!b)
theorem cg_2(ha:TD X EX a p):TW X EX (.BoolOp .And [a] pos) p:=ce_6 ha
theorem ae_8(ha:TD X EX a p):TW X EX (.BoolOp .Or [a] pos) p:=co_1 ha
theorem tDt.two{σ:Sg}{Q:Bool→Hp→Prop}{k:Bool→DE→R Bool}{P:Bool→Hp→Prop}(h:tDt K EX (fun δ=>(p δ).bind fun b=>k b δ) σ H Q)
  (i:∀b H',tDt K EX (k b) σ H' Q→P b H'):tDt K EX p σ H P:=by
 obtain⟨G,δ,g0,s0,o⟩:=h
 refine⟨G,δ,g0,s0, ?_⟩
 cases e:p δ with
 |ok b=>
  simp only [e,R.bind_ok] at o
  refine fun G' H' st=>i b H' ⟨G',δ,st.gh,s0.mono st.gg, ?_⟩
  cases e2:k b δ with
  |ok c=>rw [e2] at o;exact fun G2 H2 st2=>o G2 H2 (st.trans st2)
  |ex x=>rw [e2] at o;exact(EX σ).mono _ _ _ _ _ st o
  |no=>rw [e2] at o;exact o
 |ex x=>simp only [e,R.bind_ex] at o;exact o
 |no=>simp only [e,R.bind_no] at o
theorem tDt.now{σ:Sg}{Q:Bool→Hp→Prop}{c:Bool}(h:tDt K EX (fun _=> .ok c) σ H Q):Q c H:=by
 obtain⟨G,δ,g0,s0,o⟩:=h
 exact o G H (Step.refl g0)
theorem cq_9(ha:TD X EX a p)(hb:TW X EX (.BoolOp .And (b::v_2) pos) q):TW X EX (.BoolOp .And (a::b::v_2) pos) (tAndF p q):=
 PW.imp (co_2 ha hb) fun σ H Q h=>tDt.two (k:=fun b δ=>if b=true then q δ else .ok false) h fun b H' h'=>by
  cases b with
  |true=>rw [if_pos rfl];exact h'
  |false=>rw [if_neg Bool.false_ne_true];exact tDt.now h'
theorem al_6(ha:TD X EX a p)(hb:TW X EX (.BoolOp .Or (b::v_2) pos) q):TW X EX (.BoolOp .Or (a::b::v_2) pos) (tOrF p q):=
 PW.imp (cu_2 ha hb) fun σ H Q h=>tDt.two (k:=fun b δ=>if b=true then .ok true else q δ) h fun b H' h'=>by
  cases b with
  |true=>rw [if_pos rfl];exact tDt.now h'
  |false=>rw [if_neg Bool.false_ne_true];exact h'
theorem td_w{e:Expr}(h:TW X EX e p):TD X EX e p:=h.pt
theorem r_9(ha:TD X EX a p):TD X EX (.UnaryOp .Not a pos) (tNotF p):=
 PT.imp (co_3 ha) fun σ H Q h=>tDt.two (k:=fun b _=> .ok (!b)) h fun b H' h'=>tDt.now h'
def eAnd(f g:FE):FE:=fun δ=>(f δ).bind fun a=>(boolD a.d).bind fun k=>if k=true then g δ else .ok (.sh (.bl false))
def eOr(f g:FE):FE:=fun δ=>(f δ).bind fun a=>(boolD a.d).bind fun k=>if k=true then .ok (.sh (.bl true)) else g δ
def eNot(f:FE):FE:=fun δ=>(f δ).bind fun a=>(boolD a.d).bind fun k=> .ok (.sh (.bl (!k)))
theorem al_7{op}(h:ED X EX a f):ED X EX (.BoolOp op [a] pos) f:=co_4 h
theorem tD.boolThen{σ:Sg}{Q:VK}{k:Bool→DE→R W}{P:Bool→Hp→Prop}(h:tD K EX (fun δ=>(f δ).bind fun a=>(boolD a.d).bind fun c=>k c δ) σ H Q)
  (i:∀c H',tD K EX (k c) σ H' Q→P c H'):tD K EX f σ H fun x H'=>∃c,x= .bl c∧P c H':=by
 obtain⟨G,δ,g0,s0,o⟩:=h
 refine tD.seq g0 s0 o fun w v G1 H1 _ st1 r1 o1=> ?_
 revert r1 o1
 cases w.d with
 |bl c=>intro r1 o1;cases r1;exact⟨c,rfl,i c H1 ⟨G1,δ,st1.gh,s0.mono st1.gg,o1⟩⟩
 |_=>intro _ o1;exact False.elim o1
theorem tD.now{σ:Sg}{Q:VK}{d:D}(h:tD K EX (fun _=> .ok (.sh d)) σ H Q)(r:∀G,Has K G v d):Q v H:=by
 obtain⟨G,δ,g0,s0,o⟩:=h
 exact WP.use o g0 (r G)
theorem ae_9(ha:ED X EX a f)(hb:ED X EX (.BoolOp .And (b::v_2) pos) g):ED X EX (.BoolOp .And (a::b::v_2) pos) (eAnd f g):=
 PE.imp (co_5 ha hb) fun σ H Q h=>tD.boolThen (k:=fun k δ=>if k=true then g δ else .ok (.sh (.bl false))) h fun c H' h'=>by
  cases c with
  |true=>rw [if_pos rfl];exact h'
  |false=>rw [if_neg Bool.false_ne_true];exact tD.now h' fun _=> .bl false
theorem cr_0(ha:ED X EX a f):ED X EX (.UnaryOp .Not a pos) (eNot f):=
 PE.imp (co_6 ha) fun σ H Q h=>tD.boolThen (k:=fun k _=> .ok (.sh (.bl (!k)))) h fun c H' h'=>tD.now h' fun _=> .bl (!c)
def eIf(p:FT)(f g:FE):FE:=fun δ=>(p δ).bind fun k=>if k=true then f δ else g δ
def truthD:D→R Bool
 | .non=> .ok false
 | .bl b=> .ok b
 | .int i=> .ok (i != 0)
 | .str x=>if x.length≤16777216 then .ok ((x.length:Int) != 0) else .no
 | .lst ds=> .ok (!ds.isEmpty)
 | .tup ds=> .ok (!ds.isEmpty)
 |_=> .no
def eTruth(f:FE):FT:=fun δ=>(f δ).bind fun w=>truthD w.d
theorem bb_9{G:Hp}{ds:List D}(r:HasL K G vs ds):(!ds.isEmpty)= !vs.isEmpty:=by cases r <;> rfl
theorem cr_1{G H:Hp}{d:D}{k:Bool}(g:Same G H)(r:Has K G v d)(e:truthD d= .ok k):TruV K v H k:=by
 cases r with
 |non=>cases e;rfl
 |bl b=>cases e;rfl
 |int i=>cases e;rfl
 |str x=>
  have e:(if x.length≤16777216 then R.ok ((x.length:Int) != 0) else .no)= .ok k:=e
  split at e
  ·rename_i hz
   cases e
   exact⟨by rw [sizeLine_eq];exact hz,rfl⟩
  ·cases e
 |lst h r=>cases e;exact .inl ⟨_,g.seq h,bb_9 r⟩
 |tup h r=>cases e;exact .inr (.inl ⟨_,Same.tupS g h,bb_9 r⟩)
 |exn0 _ _=>cases e
 |exn1 _ _ _ _ _=>cases e
 |dic _ _ _=>cases e
 |obj _ _ _ _=>cases e
theorem f_0(ha:ED X EX a f)(he:∀whole,isTrue a X.env whole=(do let v←whole;standAt a.pos;holding [v] (truthy v)):=by intro _;rfl):TD X EX a (eTruth f):=
 PT.imp (bv_9 ha he) fun σ H Q ⟨G,δ,g0,s0,o⟩=>by
  refine⟨G,δ,g0,s0, ?_⟩
  unfold eTruth at o
  cases e:f δ with
  |ok w=>
   rw [e] at o
   simp only [R.bind_ok] at o
   refine WP.intro fun v G' H' st r=> ?_
   cases e2:truthD w.d with
   |ok k=>rw [e2] at o;exact⟨k,cr_1 st.gh r e2,o G' H' st⟩
   |ex x=>rw [e2] at o;exfalso;revert e2;cases w.d <;> simp only [truthD] <;> intro e2 <;> first|cases e2|(split at e2 <;> cases e2)
   |no=>rw [e2] at o;exact o.elim
  |ex x=>rw [e] at o;exact o
  |no=>rw [e] at o;exact o
variable{e:Expr}{es:List Expr}{fa:FA}
def aNil:FA:=fun _=> .ok []
def aCons(f:FE)(fa:FA):FA:=fun δ=>(f δ).bind fun w=>(fa δ).bind fun ds=> .ok (w.d::ds)
theorem a_2:AD X EX [] aNil:=PA.imp z_8 fun σ H Q ⟨G,δ,g0,s0,o⟩=>o [] G H (Step.refl g0) .nil
theorem a_1(ha:ED X EX e f)(hr:AD X EX es fa)(hs:starEach (e::es) X.env=(false,eval e X.env)::starEach es X.env:=by rfl):AD X EX (e::es) (aCons f fa):=
 PA.imp (o_9 ha hr hs) fun σ H Q ⟨G,δ,g0,s0,o⟩=>by
  refine⟨G,δ,g0,s0, ?_⟩
  unfold aCons at o
  cases e1:f δ with
  |ok w=>
   rw [e1] at o
   simp only [R.bind_ok] at o
   refine WP.intro fun v G' H' st r=>⟨G',δ,st.gh,s0.mono st.gg, ?_⟩
   cases e2:fa δ with
   |ok ds=>rw [e2] at o;exact fun vs G2 H2 st2 r2=>o (v::vs) G2 H2 (st.trans st2) (.cons (r.mono st2.gg) r2)
   |ex x=>rw [e2] at o;exact(EX σ).mono _ _ _ _ _ st o
   |no=>rw [e2] at o;exact o
  |ex x=>rw [e1] at o;exact o
  |no=>rw [e1] at o;exact o
def eTup(fa:FA):FE:=fun δ=>(fa δ).bind fun ds=>if ds.length≤16777216 then .ok (.sh (.tup ds)) else .no
def eLst(fa:FA):FE:=fun δ=>(fa δ).bind fun ds=>if ds.length≤16777216 then .ok (.ow (.lst ds)) else .no
theorem cr_2{x1}(ha:AD X EX es fa):ED X EX (.Tuple es x1 pos) (eTup fa):=
 PE.imp (cq_1 ha) fun σ H Q ⟨G,δ,g0,s0,o⟩=>tDa.seq g0 s0 o fun ds vs G' H' _ st r o'=>by
  split at o'
  ·rename_i hz
   refine⟨by rw [r.length,sizeLine_eq];exact hz,fun p hp=>o' (.ref p) _ _ (Step.new st.gh hp _) (.tup (SqT.of b_6) (r.mono (j_7 (st.gh.free hp) _)))⟩
  ·exact o'.elim
theorem k_5(ha:AD X EX es fa):ED X EX (.List es pos) (eLst fa):=
 PE.imp (cq_2 ha) fun σ H Q ⟨G,δ,g0,s0,o⟩=>tDa.seq g0 s0 o fun ds vs G' H' _ st r o'=>by
  split at o'
  ·rename_i hz
   refine⟨by rw [r.length,sizeLine_eq];exact hz,fun p hp=>q_4 o' st.gh r p hp⟩
  ·exact o'.elim
def rDc(K:Frag)(fn:List D→R W):List V→Hp→VK→Prop:=fun vs H Q=>∃(EX:EXT) (G:Hp) (ds:List D),Same G H∧HasL K G vs ds∧Out K EX G H (fn ds) Q
abbrev ab_5(X:Cx)(v:Value)(fn:List D→R W):Prop:=y_6 X v (rDc X.K fn)
def eCall(fn:List D→R W)(fa:FA):FE:=fun δ=>(fa δ).bind fn
theorem bn_4{fn:List D→R W}{σ:Sg}{Q:VK}(q:tD K EX (eCall fn fa) σ H Q):tCB (rDc K fn) (tDa K EX fa) σ H Q:=by
 obtain⟨G,δ,g0,s0,o⟩:=q
 exact tDa.seq g0 s0 o fun ds vs G' H' _ st r o'=>⟨_,G',ds,st.gh,r,o'⟩
variable{x:Str}{pp:Pos}{id T:String}{fn:List D→R W}
theorem b_7(hc:ab_5 X (.builtin id) fn)(hg:Gl X x)(hm:X.mg x=none)(hv:bootBuiltins x=some (.builtin id))(ha:AD X EX (e::es) fa)(hn:x≠ "__name__" :=by decide)(hdb:(x ==("__debug__" :Str))=false:=by decide)
  (he:starEach (e::es) X.env=(false,eval e X.env)::starEach es X.env:=by rfl) (hpl:(backTo pos (starEach es X.env)).any (·.1)=false:=by rfl):ED X EX (.Call (.Name x pp) (e::es) [] pos) (eCall fn fa):=
 PE.imp (bb_6 hc hg hm hv ha hn hdb he hpl) fun _ _ _ q=>bn_4 q
theorem x_5(hc:ab_5 X (.type T) fn)(hg:Gl X x)(hm:X.mg x=none)(hv:bootBuiltins x=some (.type T))(ha:AD X EX (e::es) fa)(hn:x≠ "__name__" :=by decide)(hdb:(x ==("__debug__" :Str))=false:=by decide)
  (he:starEach (e::es) X.env=(false,eval e X.env)::starEach es X.env:=by rfl) (hpl:(backTo pos (starEach es X.env)).any (·.1)=false:=by rfl):ED X EX (.Call (.Name x pp) (e::es) [] pos) (eCall fn fa):=
 PE.imp (br_5 hc hg hm hv ha hn hdb he hpl) fun _ _ _ q=>bn_4 q
def ixD:D→D→R W
 | .lst ds, .int i=>match atI ds i with|some d=> .ok (.sh d)|none=> .no
 | .tup ds, .int i=>match atI ds i with|some d=> .ok (.sh d)|none=> .no
 | .str z, .int i=>if z.length≤16777216 then(match atI z.cps.toList i with|some c=> .ok (.sh (.str ⟨#[c]⟩))|none=> .no) else .no
 |_,_=> .no
theorem HasL.atI{G:Hp}{ds:List D}{i:Int}{d:D}(r:HasL K G vs ds)(h:L2.atI ds i=some d):∃v,L2.atI vs i=some v∧Has K G v d:=by
 unfold L2.atI at h⊢
 rw [r.length]
 cases e:ixN ds.length i with
 |none=>rw [e] at h;cases h
 |some j=>rw [e] at h;exact r.get h
theorem ix_d:IxR X (rD X.K ixD):=by
 intro value slice zd s σ H x y v u Q I rx ry h hs
 obtain⟨EX,G,a,b,g,ra,rb,o⟩:=h
 cases rb with
 |int i=>
  cases ra with
  |lst h r=>
   simp only [ixD] at o
   split at o
   ·rename_i d e
    obtain⟨v,e1,r1⟩:=HasL.atI r e
    exact cf_8 value slice zd s σ H _ _ _ _ Q I rx ry ⟨_,_,i,v,rfl,rfl,g.seq h,e1,WP.use o g r1⟩ hs
   ·exact o.elim
  |tup h r=>
   simp only [ixD] at o
   split at o
   ·rename_i d e
    obtain⟨v,e1,r1⟩:=HasL.atI r e
    exact cq_3 value slice zd s σ H _ _ _ _ Q I rx ry ⟨_,_,i,v,rfl,rfl,Same.tupS g h,e1,WP.use o g r1⟩ hs
   ·exact o.elim
  |str z=>
   simp only [ixD] at o
   split at o
   ·rename_i hz
    split at o
    ·rename_i c e
     exact cq_4 value slice zd s σ H _ _ _ _ Q I rx ry ⟨z,i,c,rfl,rfl,by rw [sizeLine_eq];exact hz,e,WP.use o g (.str _)⟩ hs
    ·exact o.elim
   ·exact o.elim
  |_=>exact False.elim o
 |_=>cases ra <;> exact False.elim o
theorem ab_6(ha:ED X EX a f)(hb:ED X EX b g)(hs:bm_9 b:=by intro _ _;rfl):ED X EX (.Subscript a b pos) (eOp ixD f g):=
 PE.imp (cw_3 ix_d ha hb hs) fun _ _ _ q=>two q
end
end L3
namespace L2
open PySem PySem.Spec PyProof.Rows
section
variable{κ:Type} [DecidableEq κ]
def v_3(kvs:List (κ×V))(k:κ):Option V:=(kvs.find? fun kv=>decide (kv.1=k)).map (·.2)
def putK(kvs:List (κ×V))(k:κ)(v:V):List (κ×V):=
 if(kvs.any fun kv=>decide (kv.1=k))=true then kvs.map (fun kv=>if kv.1=k then(kv.1,v) else kv) else kvs ++ [(k,v)]
def cm_3(kvs:List (κ×V))(k:κ):List (κ×V):=kvs.filter fun kv=>decide (kv.1≠k)
theorem ab_7{p:κ×V}{r:List (κ×V)}{k:κ}(e:p.1=k):v_3 (p::r) k=some p.2:=by simp [v_3,List.find?_cons,e]
theorem ab_8{p:κ×V}{r:List (κ×V)}{k:κ}(e:¬p.1=k):v_3 (p::r) k=v_3 r k:=by simp [v_3,List.find?_cons,e]
theorem bc_0(k:κ):∀kvs:List (κ×V),(kvs.any fun kv=>decide (kv.1=k))=(v_3 kvs k).isSome
 | []=>rfl
 |p::r=>by
  rw [List.any_cons]
  by_cases e:p.1=k
  ·simp only [ab_7 e,decide_eq_true e,Bool.true_or,Option.isSome_some]
  ·rw [ab_8 e,decide_eq_false e,Bool.false_or];exact bc_0 k r
theorem ah_1(kvs:List (κ×V))(k:κ)(v:V):(putK kvs k v).length≤kvs.length + 1:=by
 unfold putK
 split
 ·rw [List.length_map];omega
 ·rw [List.length_append,List.length_cons,List.length_nil];omega
theorem RelO.isSome_eq{o:Option V}{u:Option Value}(r:RelO o u):o.isSome=u.isSome:=by
 cases o with
 |none=>cases u with
  |none=>rfl
  |some _=>exact(show False from r).elim
 |some _=>cases u with
  |none=>exact(show False from r).elim
  |some _=>rfl
theorem RelO.getD{o:Option V}{u:Option Value}{d:V}{d':Value}(r:RelO o u)(rd:RelV d d'):RelV (o.getD d) (u.getD d'):=by
 cases o with
 |none=>cases u with
  |none=>exact rd
  |some _=>exact(show False from r).elim
 |some _=>cases u with
  |none=>exact(show False from r).elim
  |some _=>exact r
theorem KV.val{kvs:List (κ×V)}{vs:List (κ×Value)}(r:KV kvs vs)(k:κ):RelO (v_3 kvs k) (valueAt vs k):=by
 unfold KV at r
 induction r with
 |nil=>exact True.intro
 | @cons p q ps qs h t ih=>
  obtain⟨h1,h2⟩:=h
  by_cases e:p.1=k
  ·have e':q.1=k:=h1.symm.trans e
   have b:valueAt (q::qs) k=some q.2:=by simp [valueAt,List.find?_cons,e']
   rw [ab_7 e,b];exact h2
  ·have e':¬q.1=k:=fun z=>e (h1.trans z)
   have b:valueAt (q::qs) k=valueAt qs k:=by simp [valueAt,List.find?_cons,e']
   rw [ab_8 e,b];exact ih
theorem KV.any{kvs:List (κ×V)}{vs:List (κ×Value)}(r:KV kvs vs)(k:κ):(kvs.any fun kv=>decide (kv.1=k))=vs.any fun kv=>decide (kv.1=k):=by
 unfold KV at r
 induction r with
 |nil=>rfl
 |cons h t ih=>rw [List.any_cons,List.any_cons,ih,h.1]
theorem KV.repl{kvs:List (κ×V)}{vs:List (κ×Value)}(r:KV kvs vs)(k:κ){y:V}{u:Value}(ry:RelV y u):
  KV (kvs.map fun kv=>if kv.1=k then(kv.1,y) else kv) (vs.map fun kv=>if kv.1=k then(kv.1,u) else kv):=by
 unfold KV at r⊢
 induction r with
 |nil=>exact .nil
 | @cons p q ps qs h t ih=>
  rw [List.map_cons,List.map_cons]
  refine .cons ?_ ih
  obtain⟨h1,h2⟩:=h
  by_cases e:p.1=k
  ·rw [if_pos e,if_pos (h1.symm.trans e)];exact⟨h1,ry⟩
  ·rw [if_neg e,if_neg (fun z=>e (h1.trans z))];exact⟨h1,h2⟩
theorem KV.put{kvs:List (κ×V)}{vs:List (κ×Value)}(r:KV kvs vs)(k:κ){y:V}{u:Value}(ry:RelV y u):KV (putK kvs k y) (stored vs k u):=by
 unfold putK stored
 rw [r.any k]
 by_cases e:(vs.any fun kv=>decide (kv.1=k))=true
 ·rw [if_pos e,if_pos e];exact r.repl k ry
 ·rw [if_neg e,if_neg e];exact Paired.snoc r ⟨rfl,ry⟩
theorem KV.drop{kvs:List (κ×V)}{vs:List (κ×Value)}(r:KV kvs vs)(k:κ):KV (cm_3 kvs k) (without vs k):=by
 unfold KV at r⊢
 unfold cm_3 without
 induction r with
 |nil=>exact .nil
 | @cons p q ps qs h t ih=>
  obtain⟨h1,h2⟩:=h
  rw [List.filter_cons,List.filter_cons]
  by_cases e:p.1=k
  ·have a:¬decide (p.1≠k)=true:=by simp [e]
   have b:¬decide (q.1≠k)=true:=by simp [h1.symm.trans e]
   rw [if_neg a,if_neg b];exact ih
  ·have e':¬q.1=k:=fun z=>e (h1.trans z)
   have a:decide (p.1≠k)=true:=by simp [e]
   have b:decide (q.1≠k)=true:=by simp [e']
   rw [if_pos a,if_pos b];exact .cons ⟨h1,h2⟩ ih
theorem KV.keys{kvs:List (κ×V)}{vs:List (κ×Value)}(r:KV kvs vs):kvs.map (·.1)=vs.map (·.1):=by
 unfold KV at r
 induction r with
 |nil=>rfl
 |cons h t ih=>rw [List.map_cons,List.map_cons,ih,h.1]
theorem KV.length{kvs:List (κ×V)}{vs:List (κ×Value)}(r:KV kvs vs):kvs.length=vs.length:=Paired.length r
end
theorem bx_2{w:World}{k:Key}{u:Value}(r:RelV (kV k) u):(i_1 P w).is k u=true:=by
 cases k with
 |inl i=>obtain⟨t,e⟩:=(show∃t,u=Value.int i t from r);subst e;exact bb_2 P w i t
 |inr x=>obtain⟨t,e⟩:=(show∃t,u=Value.str x t from r);subst e;exact bb_3 P w x t
theorem as_7{w:World}:∀{ks:List Key} {us:List Value},Vals (ks.map kV) us→ItemsAre (i_1 P w) ks us
 | [],_,r=>by rw [List.map_nil] at r;cases r;exact .nil
 |k::ks,_,r=>by
  rw [List.map_cons] at r
  cases r with
  |cons h t=>exact .cons (bx_2 h) (as_7 t)
abbrev KT(H:Hp):List (List Key×V)→List (List Key×Addr×Value)→Prop:=Paired fun p q=>p.1=q.1∧H q.2.1=some (.tup (p.1.map kV))∧RelV p.2 q.2.2
theorem KT.val{kvs:List (List Key×V)}{xs:List (List Key×Addr×Value)}(r:KT H kvs xs)(k:List Key):RelO (v_3 kvs k) ((atKey xs k).map (·.2)):=by
 induction r with
 |nil=>exact True.intro
 | @cons p q ps qs h t ih=>
  obtain⟨h1,_,h2⟩:=h
  by_cases e:p.1=k
  ·have e':q.1=k:=h1.symm.trans e
   have b:atKey (q::qs) k=some q.2:=by simp [atKey,List.find?_cons,e']
   rw [ab_7 e,b];exact h2
  ·have e':¬q.1=k:=fun z=>e (h1.trans z)
   have b:atKey (q::qs) k=atKey qs k:=by simp [atKey,List.find?_cons,e']
   rw [ab_8 e,b];exact ih
theorem KT.repl{kvs:List (List Key×V)}{xs:List (List Key×Addr×Value)}(r:KT H kvs xs)(k:List Key){y:V}{u:Value}(ry:RelV y u):
  KT H (kvs.map fun kv=>if kv.1=k then(kv.1,y) else kv) (xs.map (putAt k u)):=by
 induction r with
 |nil=>exact .nil
 | @cons p q ps qs h t ih=>
  rw [List.map_cons,List.map_cons]
  refine .cons ?_ ih
  obtain⟨h1,h2,h3⟩:=h
  unfold putAt
  by_cases e:p.1=k
  ·rw [if_pos e,if_pos (h1.symm.trans e)];exact⟨h1,h2,ry⟩
  ·rw [if_neg e,if_neg (fun z=>e (h1.trans z))];exact⟨h1,h2,h3⟩
theorem KT.put{kvs:List (List Key×V)}{xs:List (List Key×Addr×Value)}(r:KT H kvs xs)(k:List Key){b:Addr}{y:V}{u:Value}(hb:H b=some (.tup (k.map kV)))(ry:RelV y u):
  KT H (putK kvs k y) (storedH xs k b u):=by
 have e:(kvs.any fun kv=>decide (kv.1=k))=(atKey xs k).isSome:=by
  rw [bc_0,(r.val k).isSome_eq,Option.isSome_map]
 unfold putK storedH
 rw [e]
 by_cases q:(atKey xs k).isSome=true
 ·rw [if_pos q,if_pos q];exact r.repl k ry
 ·rw [if_neg q,if_neg q];exact Paired.snoc r ⟨rfl,hb,ry⟩
theorem KT.keeps{H H':Hp}{kvs:List (List Key×V)}{xs:List (List Key×Addr×Value)}(r:KT H kvs xs)(ht:∀b ys,H b=some (.tup ys)→H' b=some (.tup ys)):KT H' kvs xs:=
 Paired.mapP r fun _ _ z=>⟨z.1,ht _ _ z.2.1,z.2.2⟩
section
variable{P:Program}{w:World}{H:Hp}{h:Heap}{a:Addr}
theorem cm_4{u:HO}(ok:HOk P w H h)(e:Rd H a u):ObjOk P w H h a u:=e.ok ok
theorem cm_5{kvs:List (Key×V)}(ok:HOk P w H h)(e:Rd H a (.dK kvs)):kvs.length≤sizeLine∧(a ==sysModules)=false∧∃vs,KV kvs vs∧h.DictOf (i_1 P w) a vs:=
 show ObjOk P w H h a (.dK kvs) from cm_4 ok e
theorem cw_5{kvs:List (Key×V)}(ok:HOk P w H h)(e:H a=some (.dK kvs)):kvs.length≤sizeLine∧(a ==sysModules)=false∧∃vs,KV kvs vs∧h.DictOf (i_1 P w) a vs:=cm_5 ok (.inl e)
theorem bj_2{ks:List Key}(ok:HOk P w H h)(e:H a=some (.tup (ks.map kV))):(tupleKind (i_1 P w)).is h ks a:=by
 obtain⟨_,its,r,o,h1,h2,n,h3⟩:=(show ObjOk P w H h a (.tup (ks.map kV)) from ok a _ e)
 exact⟨o,its.toArray,n,h1,h2,h3,by simpa using as_7 r⟩
theorem cm_6{kvs:List (List Key×V)}(ok:HOk P w H h)(e:Rd H a (.dT kvs)):kvs.length≤sizeLine∧(a ==sysModules)=false∧
  ∃xs,KT H kvs xs∧h.DictOfH (tupleKind (i_1 P w)) a xs:=by
 obtain⟨z,y,xs,r,o,es,ep,h1,h2,h3,h4,h5⟩:=(show ObjOk P w H h a (.dT kvs) from cm_4 ok e)
 refine⟨z,y,xs,r,o,es,ep,h1,h2,h3,h4,fun x hx=> ?_,h5⟩
 have all:∀{l:List (List Key×V)} {m:List (List Key×Addr×Value)},KT H l m→∀x∈m,(tupleKind (i_1 P w)).is h x.1 x.2.1:=by
  intro l m q
  induction q with
  |nil=>intro x hx;exact nomatch hx
  | @cons p q ps qs hq t ih=>
   intro x hx
   rcases List.mem_cons.mp hx with e|hx
   ·subst e
    exact bj_2 ok (by rw [←hq.1];exact hq.2.1)
   ·exact ih x hx
 exact all r x hx
theorem cw_6{kvs:List (List Key×V)}(ok:HOk P w H h)(e:H a=some (.dT kvs)):kvs.length≤sizeLine∧(a ==sysModules)=false∧
  ∃xs,KT H kvs xs∧h.DictOfH (tupleKind (i_1 P w)) a xs:=cm_6 ok (.inl e)
end
def DGet(H:Hp)(a:Addr)(y:V)(r:Option V):Prop:=
 (∃kvs k,Rd H a (.dK kvs)∧y=kV k∧r=v_3 kvs k)∨∃kvs k b,Rd H a (.dT kvs)∧y= .ref b∧H b=some (.tup (k.map kV))∧r=v_3 kvs k
def DPut(H:Hp)(a:Addr)(y v:V)(H':Hp):Prop:=
 (∃kvs k,H a=some (.dK kvs)∧y=kV k∧kvs.length < sizeLine∧H'=upd H a (.dK (putK kvs k v)))∨
 ∃kvs k b,H a=some (.dT kvs)∧y= .ref b∧H b=some (.tup (k.map kV))∧kvs.length < sizeLine∧H'=upd H a (.dT (putK kvs k v))
theorem DGet.k{a:Addr}{kvs:List (Key×V)}{k:Key}(e:H a=some (.dK kvs)):DGet H a (kV k) (v_3 kvs k):= .inl ⟨kvs,k, .inl e,rfl,rfl⟩
theorem DGet.t{a b:Addr}{kvs:List (List Key×V)}{k:List Key}(e:H a=some (.dT kvs))(eb:H b=some (.tup (k.map kV))):DGet H a (.ref b) (v_3 kvs k):= .inr ⟨kvs,k,b, .inl e,rfl,eb,rfl⟩
theorem DPut.k{a:Addr}{kvs:List (Key×V)}{k:Key}(e:H a=some (.dK kvs))(hl:kvs.length < sizeLine):DPut H a (kV k) v (upd H a (.dK (putK kvs k v))):= .inl ⟨kvs,k,e,rfl,hl,rfl⟩
theorem DPut.t{a b:Addr}{kvs:List (List Key×V)}{k:List Key}(e:H a=some (.dT kvs))(eb:H b=some (.tup (k.map kV)))(hl:kvs.length < sizeLine):
  DPut H a (.ref b) v (upd H a (.dT (putK kvs k v))):= .inr ⟨kvs,k,b,e,rfl,eb,hl,rfl⟩
section
variable{X:Cx}{zd:List (Addr×Obj)}{σ:St}{H:Hp}{s:Shared}{a:Addr}{y v:V}{u r:Value}{o:Option V}{A:Around}{E:Value→Shared→Prop}
theorem Inv.big(I:Inv X zd σ H s):sysModules < s.heap.objs.size:=by
 have h:mainGlobals < s.heap.objs.size:=(I.mod.glob.keeps I.bk).lt
 exact Nat.lt_trans (by decide) h
theorem d_in{Q:Value→Shared→Prop}(hu:A.units + 1 < cLine)(I:Inv X zd σ H s)(g:DGet H a y o)(ry:RelV y u)(h:∀s',Inv X zd σ H s'→Q (.bool o.isSome) s'):
  wpAny (model X.prog X.w) A (compareOp .In u (.ref a)) Q E s:=by
 rcases g with⟨kvs,k,e,ey,l⟩|⟨kvs,k,b,e,ey,eb,l⟩
 ·subst ey
  obtain⟨z,hd,vs,rel,dd⟩:=cm_5 I.hok e
  refine wpAny_in_of (bx_2 ry) hd dd.mapOf ?_
  rw [←(rel.val k).isSome_eq,←l]
  exact h _ (I.tok _)
 ·subst ey
  cases(show u=Value.ref b from ry)
  obtain⟨z,hd,xs,rel,dd⟩:=cm_6 I.hok e
  refine wpAny_in_heap (tupleKind_room_in1 hu) (bj_2 I.hok eb) hd dd ?_
  have q:=(rel.val k).isSome_eq
  rw [Option.isSome_map] at q
  rw [←q,←l]
  exact h _ (I.tok _)
theorem bn_5{h':Heap}{t':Nat}{ob:HO}(I:Inv X zd σ H s)(mu:Mut (H a))(hs:Heap.SameBut a s.heap h')(he:∃q,h'.get? a=some q)(new:ObjOk X.prog X.w (upd H a ob) h' a ob):
  Inv X zd σ (upd H a ob) {s with heap:=h',toks:=t'}:=
 I.write (x:=a) (e:=a) mu (.inl rfl) (fun b q hb z=>(hs.2 b hb).trans z) he new
theorem cr_3{w:World}{H':Hp}{h':Heap}{kvs:List (Key×V)}{vs:List (Key×Value)}(z:kvs.length≤sizeLine)(hd:(a ==sysModules)=false)(rel:KV kvs vs)(dd:h'.DictOf (i_1 P w) a vs):
  ObjOk P w H' h' a (.dK kvs):=⟨z,hd,vs,rel,dd⟩
theorem bs_2{H':Hp}{Q:Unit→Shared→Prop}(hu:A.units + 1 < cLine)(I:Inv X zd σ H s)(g:DPut H a y v H')(ry:RelV y u)(rv:RelV v r)(h:∀s',Inv X zd σ H' s'→Q () s'):
  wpAny (model X.prog X.w) A (setItem (.ref a) u r) Q E s:=by
 rcases g with⟨kvs,k,e,ey,l,eH⟩|⟨kvs,k,b,e,ey,eb,l,eH⟩
 ·subst ey eH
  obtain⟨z,hd,vs,rel,dd⟩:=cw_5 I.hok e
  have hz:vs.length≤sizeLine:=by rw [←rel.length];exact z
  have hl:(putK kvs k v).length≤sizeLine:=by have:=ah_1 kvs k v;omega
  refine wpAny_setItem_pairs (hsz:=hz) (bx_2 ry) dd fun h' dd' hs=>h _ ?_
  have he:∃q,h'.get? a=some q:=let⟨q,_,_,hq,_⟩:=dd';⟨q,hq⟩
  exact bn_5 I (by rw [e];exact True.intro) hs he (cr_3 hl hd (rel.put k rv) dd')
 ·subst ey eH
  cases(show u=Value.ref b from ry)
  obtain⟨z,hd,xs,rel,dd⟩:=cw_6 I.hok e
  have hz:xs.length≤sizeLine:=by rw [←Paired.length rel];exact z
  have hl:(putK kvs k v).length≤sizeLine:=by have:=ah_1 kvs k v;omega
  refine wpAny_setItem_heap (hsz:=hz) (tupleKind_room_in1 hu) (bj_2 I.hok eb) dd fun h' dd' hs=>h _ ?_
  obtain⟨q,es,ep,hq,h2,h3,h4,_,h5⟩:=dd'
  refine bn_5 I (by rw [e];exact True.intro) hs ⟨q,hq⟩ ⟨hl,hd,_,(rel.put k eb rv).keeps fun c ys ec=> ?_,q,es,ep,hq,h2,h3,h4,h5⟩
  rw [b_0 (cu_0 ec e (fun z=>nomatch z))]
  exact ec
end
section
variable{X:Cx}{zd:List (Addr×Obj)}{σ:St}{H:Hp}{s:Shared}{a:Addr}{kvs:List (Key×V)}{k:Key}{u:Value}{A:Around}{E:Value→Shared→Prop}
end
def cw_7(td ty tv:TE):TS:=fun D σ H=>tv σ H fun v H1=>td σ H1 fun x H2=>ty σ H2 fun y H3=>∃a H4,x= .ref a∧DPut H3 a y v H4∧D.nx σ H4
section
variable{X:Cx}{o i e value:Expr}{pos pos' zi:Pos}{td ty tv:TE}
theorem cg_3(hu:X.A.units + 1 < cLine)(ho:PE X o td)(hi:PE X i ty)(hv:PE X value tv)(hs:swapsWith value (some (.Subscript o i pos')) pos.line X.env=pure false):
  PS X (.Assign [.Subscript o i pos'] value pos) (cw_7 td ty tv):=by
 intro zd s σ H D I h
 refine wpAny_Assign_Subscript (thn (hv zd s σ H _ I h) fun r s1 ⟨v,H1,I1,rv,q1⟩=>thn (ho zd s1 σ H1 _ I1 q1) fun u s2 ⟨x,H2,I2,rx,q2⟩=>thn (hi zd s2 σ H2 _ I2 q2) fun iv s3 ⟨y,H3,I3,ry,a,H4,ex,g,q3⟩=> ?_) hs
 subst ex
 obtain rfl:u=Value.ref a:=rx
 exact bs_2 hu I3 g ry rv fun s4 I4=>⟨σ,H4,I4,q3⟩
end
theorem bx_3{w:World}(h:Heap)(hb:sysModules < h.objs.size):ObjOk P w H (h.push {cls:= .type "dict",data:= .dict #[]}) h.objs.size (.dK []):=
 ⟨Nat.zero_le _,beq_eq_false_iff_ne.mpr (Ne.symm (Nat.ne_of_lt hb)), [], .nil,Heap.DictOf.new h⟩
def cr_4:TE:=fun _ H Q=>∀p,H p=none→Q (.ref p) (upd H p (.dK []))
section
variable{X:Cx}{pos:Pos}
theorem bx_4:PE X (.Dict [] [] pos) cr_4:=fun zd s σ H Q I h=>
 wpAny_Dict_empty ⟨.ref s.heap.objs.size,_,I.laid (a:=s.heap.objs.size) (o:= .dK []) (t':=s.toks) (fun _ _ q=>Heap.get?_push_of_some _ q) (Nat.le_refl _) (bx_3 s.heap I.big),rfl,h _ (I.hok.fresh (Nat.le_refl _))⟩
end
structure M1(X:Cx)(o:Expr)(m:Str)(zh:Pos)(e:Expr)(zf:Pos):Prop where
 base:attributeBase o m X.env (eval o X.env)=eval o X.env
 few:((backTo zf (starEach [e] X.env)).all (fun x=> !x.1) && (backToKw zf (keywordEach [] X.env)).all (fun x=>x.1.isSome)
  && decide (([e]:List Expr).length + ([]:List Keyword).length + (if([]:List Keyword).isEmpty then 0 else 1) < 30))=true
 line:(zh.endLine ==zf.line)=true
 trees:backTo zf (starEach [e] X.env)= [(false,eval e X.env)]
structure M2(X:Cx)(o:Expr)(m:Str)(zh:Pos)(e f:Expr)(zf:Pos):Prop where
 base:attributeBase o m X.env (eval o X.env)=eval o X.env
 few:((backTo zf (starEach [e,f] X.env)).all (fun x=> !x.1) && (backToKw zf (keywordEach [] X.env)).all (fun x=>x.1.isSome)
  && decide (([e,f]:List Expr).length + ([]:List Keyword).length + (if([]:List Keyword).isEmpty then 0 else 1) < 30))=true
 line:(zh.endLine ==zf.line)=true
 trees:backTo zf (starEach [e,f] X.env)= [(false,eval e X.env),(false,eval f X.env)]
section
variable{X:Cx}{zd:List (Addr×Obj)}{σ:St}{H:Hp}{s:Shared}{a:Addr}{y d:V}{u r:Value}{o:Option V}{A:Around}{E:Value→Shared→Prop}
end
section
variable{X:Cx}{o e f:Expr}{zh zf:Pos}{td ty tx:TE}
end
section
variable{X:Cx}{zd:List (Addr×Obj)}{σ:St}{H:Hp}{s:Shared}{a:Addr}{kvs:List (Key×V)}{A:Around}{E:Value→Shared→Prop}
end
section
variable{X:Cx}{zd:List (Addr×Obj)}{σ:St}{H:Hp}{s:Shared}{a:Addr}{y:V}{u:Value}{A:Around}{E:Value→Shared→Prop}
end
section
variable{X:Cx}
end
section
variable{κ:Type} [DecidableEq κ]
end
end L2
namespace L3
open PySem PySem.Spec PyProof.Rows L2
variable{K:Frag}{fd:FuncData}{mg:Str→Option Value}{P:Program}{vs:List V}{us:List Value}{base:Heap}{H:Hp}{X:Cx}{pos:Pos}{v:V}
section
variable{X:Cx}
theorem d_9{EX:EXT}{G H:Hp}{Q:VK}{d:D}(o:Out K EX G H (.ok (.sh d)) Q)(g:Same G H)(r:Has K G v d):Q v H:=WP.use o g r
def cw_8(K:Frag):R2:=fun x y H Q=>∃l b xs zs,x= .ref l∧y= .ref b∧SqL K H l xs∧SqL K H b zs∧xs.length + zs.length≤sizeLine∧∀p,H p=none→Q (.ref p) (upd H p (.lst (xs ++ zs)))
theorem cg_4:OpR X (binaryOp .Add) (cw_8 X.K):=by
 intro zd s σ H x y v u Q I rx ry h
 obtain⟨l,b,xs,zs,rfl,rfl,hH,hB,hz,q⟩:=h
 cases rx
 cases ry
 obtain⟨its,r,⟨o,n,e,c,dd,dat⟩,z⟩:=I.list hH
 obtain⟨its2,r2,⟨o2,n2,e2,c2,dd2,dat2⟩,z2⟩:=I.list hB
 have hl:=r.length
 have hl2:=r2.length
 obtain⟨cls,dd',data,sl⟩:=o
 obtain⟨fq,fw,data2,sl2⟩:=o2
 simp only at c dd dat c2 dd2 dat2
 subst c dd dat c2 dd2 dat2
 refine concat_meets ⟨_,e,rfl⟩ ⟨_,e2,rfl⟩ noFill_list_add seq_list_add PySem.F.slot_list_add PySem.F.entry_list_add (PySem.F.args_list_add_2 _ _) (list_addW l b its.toArray its2.toArray n n2 none none sl sl2 (by rw [List.size_toArray,List.size_toArray];omega)) ⟨e,e2, ?_⟩
 have ea:its.toArray ++ its2.toArray=(its ++ its2).toArray:=by simp
 rw [ea]
 exact⟨.ref _,_,I.lnew (t':=s.toks) (r.append r2) (by rw [List.length_append];omega),rfl,q _ I.fresh⟩
def c_9:D→D→R W
 | .int i, .int j=> .ok (.sh (.int (i + j)))
 | .str x, .str y=>if x.length + y.length≤16777216 then .ok (.sh (.str (x ++ y))) else .no
 | .lst a, .lst b=>if a.length + b.length≤16777216 then .ok (.ow (.lst (a ++ b))) else .no
 |_,_=> .no
theorem a_9:OpD X (binaryOp .Add) c_9:=by
 intro zd s σ H x y v u Q I rx ry h
 obtain⟨EX,G,a,b,g,ra,rb,o⟩:=h
 cases ra with
 |int i=>
  cases rb with
  |int j=>exact cp_2 zd s σ H _ _ _ _ Q I rx ry ⟨i,j,rfl,rfl,d_9 o g (.int _)⟩
  |_=>exact False.elim o
 |str x=>
  cases rb with
  |str y=>
   simp only [c_9] at o
   split at o
   ·rename_i hz
    exact bi_4 zd s σ H _ _ _ _ Q I rx ry ⟨x,y,rfl,rfl,by rw [sizeLine_eq];exact hz,d_9 o g (.str _)⟩
   ·exact o.elim
  |_=>exact False.elim o
 |lst h1 r1=>
  cases rb with
  |lst h2 r2=>
   simp only [c_9] at o
   split at o
   ·rename_i hz
    exact cg_4 zd s σ H _ _ _ _ Q I rx ry ⟨_,_,_,_,rfl,rfl,g.seq h1,g.seq h2,by rw [r1.length,r2.length,sizeLine_eq];exact hz,q_4 o g (r1.append r2)⟩
   ·exact o.elim
  |_=>exact False.elim o
 |_=>cases rb <;> exact False.elim o
def intD(C:Int→Int→Bool)(f:Int→Int→Int):D→D→R W
 | .int i, .int j=>if C i j=true then .ok (.sh (.int (f i j))) else .no
 |_,_=> .no
theorem ab_9{fn:Value→Value→Sem Value}{C:Int→Int→Bool}{P:Int→Int→Prop}{f:Int→Int→Int}(h:OpR X fn (rI P fun i j=> .int (f i j)))(hC:∀i j,C i j=true→P i j):OpD X fn (intD C f):=by
 intro zd s σ H x y v u Q I rx ry q
 obtain⟨EX,G,a,b,g,ra,rb,o⟩:=q
 cases ra with
 |int i=>
  cases rb with
  |int j=>
   simp only [intD] at o
   split at o
   ·rename_i hc
    exact h zd s σ H _ _ _ _ Q I rx ry ⟨i,j,rfl,rfl,hC i j hc,d_9 o g (.int _)⟩
   ·exact o.elim
  |_=>exact False.elim o
 |_=>cases rb <;> exact False.elim o
def subD:D→D→R W:=intD (fun _ _=>true) (fun i j=>i - j)
def mulC(i j:Int):Bool:=decide (i.natAbs < 18446744073709551616∨j.natAbs < 18446744073709551616)
def o_0:D→D→R W:=intD mulC (fun i j=>i * j)
def divC(_ j:Int):Bool:=decide (0 < j∧j.natAbs < 1361129467683753853853498429727072845824)
def y_3:D→D→R W:=intD divC (fun i j=>i / j)
def modC(_ j:Int):Bool:=decide (0 < j)
def n_1:D→D→R W:=intD modC (fun i j=>i % j)
def powC(i j:Int):Bool:=decide (0≤j∧j.natAbs≤1000000∧i.natAbs < 18446744073709551616)
def powD:D→D→R W:=intD powC (fun i j=>i ^ j.toNat)
theorem q_6:OpD X (binaryOp .Sub) subD:=ab_9 (P:=fun _ _=>True) (opI fun _ _ _ _ _ _ _ _ q=>sub_int q) fun _ _ _=>trivial
theorem e_0:OpD X (binaryOp .Mult) o_0:=ab_9 cp_3 fun i j h=>by
 have h:=of_decide_eq_true h
 rcases h with h|h
 ·exact .inl ⟨by omega,by omega⟩
 ·exact .inr ⟨by omega,by omega⟩
theorem k_3:OpD X (binaryOp .FloorDiv) y_3:=ab_9 (P:=fun _ j=>0 < j∧j.natAbs < 1361129467683753853853498429727072845824) (opI fun i j _ _ _ _ _ hc q=>by
 have h1:(0:Int) < j:=hc.1
 have h2:=hc.2
 refine floordiv_int (by omega) ?_ (.inl (PyProof.noPylong_of_log2 ?_))
 ·rw [Int.fdiv_eq_ediv_of_nonneg i (by omega)]
  exact q
 ·have:j.natAbs < 2 ^ 130:=by
   have e:(2:Nat) ^ 130=1361129467683753853853498429727072845824:=by decide
   omega
  have l:j.natAbs.log2 < 130:=(Nat.log2_lt (by omega)).mpr this
  omega) fun i j h=>of_decide_eq_true h
theorem e_1:OpD X (binaryOp .Mod) n_1:=ab_9 cp_4 fun i j h=>of_decide_eq_true h
theorem cg_7{i j:Int}(h:powC i j=true):CPow i j:=by
 obtain⟨h1,h2,h3⟩:=of_decide_eq_true h
 refine⟨h1,by omega, ?_⟩
 have e:(2:Nat) ^ 64=18446744073709551616:=by decide
 omega
theorem cg_8:OpD X (binaryOp .Pow) powD:=ab_9 cp_5 fun i j h=>cg_7 h
def cmpD(f:Int→Int→Bool):D→D→R W
 | .int i, .int j=> .ok (.sh (.bl (f i j)))
 |_,_=> .no
theorem aw_0{fn:Value→Value→Sem Value}{f:Int→Int→Bool}(h:OpR X fn (rI0 fun i j=> .bl (f i j))):OpD X fn (cmpD f):=by
 intro zd s σ H x y v u Q I rx ry q
 obtain⟨EX,G,a,b,g,ra,rb,o⟩:=q
 cases ra with
 |int i=>
  cases rb with
  |int j=>exact h zd s σ H _ _ _ _ Q I rx ry ⟨i,j,rfl,rfl,d_9 o g (.bl _)⟩
  |_=>exact False.elim o
 |_=>cases rb <;> exact False.elim o
def ltD:D→D→R W:=cmpD fun i j=>decide (i < j)
def leD:D→D→R W:=cmpD fun i j=>decide (i≤j)
def gtD:D→D→R W:=cmpD fun i j=>decide (j < i)
theorem bx_5:OpD X (compareOp .Lt) ltD:=aw_0 cv_5
theorem aa_1:OpD X (compareOp .LtE) leD:=aw_0 cv_6
theorem aw_1:OpD X (compareOp .Gt) gtD:=aw_0 cv_7
mutual
def l_7:D→PyData
 | .non=> .none
 | .bl b=> .bool b
 | .int i=> .int i
 | .str x=> .str x
 | .lst ds=> .list (i_3 ds)
 | .tup ds=> .tuple (i_3 ds)
 | .dic _=> .dict []
 | .exn _ _ _=> .dict []
 | .obj _ _ _=> .dict []
def i_3:List D→List PyData
 | []=> []
 |d::ds=>l_7 d::i_3 ds
end
mutual
theorem Has.reads(hK:X.K=K){zd:List (Addr×Obj)}{σ:Sg}{s:Shared}(I:Inv X zd σ H s){G:Hp}(g:Same G H):∀{v:V} {d:D} {u:Value},(l_7 d).canLay0=true→Has K G v d→RelV v u→∃as,Reads s.heap u (l_7 d) as
 |_,_,_,_, .non,r=>by cases r;exact⟨_, .none⟩
 |_,_,_,_, .bl b,r=>by cases r;exact⟨_, .bool b⟩
 |_,_,_,_, .int i,r=>by obtain⟨t,rfl⟩:=r;exact⟨_, .int i t⟩
 |_,_,_,_, .str x,r=>by obtain⟨t,rfl⟩:=r;exact⟨_, .str x t⟩
 |_,_,_,c, .lst h r,q=>by
  cases q
  obtain⟨its,rv,⟨o,n,e,c',_,dat⟩,_⟩:=I.list (by rw [hK];exact g.seq h)
  obtain⟨as,z⟩:=HasL.reads hK I g c r rv
  exact⟨_, .list e c' dat z⟩
 |_,_,_,c, .tup h r,q=>by
  cases q
  obtain⟨its,rv,⟨o,e,c',n,dat⟩,_⟩:=I.tuple (by rw [hK];exact Same.tupS g h)
  obtain⟨as,z⟩:=HasL.reads hK I g c r rv
  exact⟨_, .tuple e c' dat z⟩
 |_,_,_,c, .exn0 _ _,_=>absurd c Bool.false_ne_true
 |_,_,_,c, .exn1 _ _ _ _ _,_=>absurd c Bool.false_ne_true
 |_,_,_,c, .dic _ _ _,_=>absurd c Bool.false_ne_true
 |_,_,_,c, .obj _ _ _ _,_=>absurd c Bool.false_ne_true
theorem HasL.reads(hK:X.K=K){zd:List (Addr×Obj)}{σ:Sg}{s:Shared}(I:Inv X zd σ H s){G:Hp}(g:Same G H):∀{vs:List V} {ds:List D} {us:List Value},PyData.canLayAll0 (i_3 ds)=true→HasL K G vs ds→Vals vs us→∃as,ReadsAll s.heap us (i_3 ds) as
 |_,_,_,_, .nil,r=>by cases r;exact⟨_, .nil⟩
 |_,_,_,c, .cons h t,r=>by
  cases r with
  |cons r1 r2=>
   have c':(PyData.canLay0 (l_7 _) && PyData.canLayAll0 (i_3 _))=true:=c
   rw [Bool.and_eq_true] at c'
   obtain⟨a1,z1⟩:=Has.reads hK I g c'.1 h r1
   obtain⟨a2,z2⟩:=HasL.reads hK I g c'.2 t r2
   exact⟨_, .cons z1 z2⟩
end
def eqC(a b:D):Bool:=(l_7 a).canLay0 && (l_7 b).canLay0 && decide ((l_7 a).depth≤60)
def eqvD(a b:D):Bool:=(l_7 a).eqv (l_7 b)
def eqD(a b:D):R W:=match a,b with
 | .str x, .str y=> .ok (.sh (.bl (decide (x=y))))
 |a,b=>if eqC a b=true then .ok (.sh (.bl (eqvD a b))) else .no
def neD(a b:D):R W:=match a,b with
 | .str x, .str y=> .ok (.sh (.bl (!decide (x=y))))
 |a,b=>if eqC a b=true then .ok (.sh (.bl (!eqvD a b))) else .no
theorem bc_1(x y:Str):decide (V.str x=V.str y)=decide (x=y):=by
 by_cases e:x=y
 ·subst e;simp
 ·rw [decide_eq_false e,decide_eq_false (fun z=>e (by injection z))]
theorem h_6(hu:X.A.units + 64 < cLine):OpD X (compareOp .Eq) eqD:=by
 intro zd s σ H x y v u Q I rx ry q
 obtain⟨EX,G,a,b,g,ra,rb,o⟩:=q
 unfold eqD at o
 split at o
 ·rename_i x y
  cases ra
  cases rb
  exact cv_3 zd s σ H _ _ _ _ Q I rx ry ⟨rfl,by rw [bc_1];exact d_9 o g (.bl _)⟩
 ·split at o
  ·rename_i hc
   unfold eqC at hc
   rw [Bool.and_eq_true,Bool.and_eq_true] at hc
   obtain⟨⟨h1,h2⟩,h3⟩:=hc
   have h3:=of_decide_eq_true h3
   obtain⟨as,za⟩:=Has.reads rfl I g h1 ra rx
   obtain⟨bs,zb⟩:=Has.reads rfl I g h2 rb ry
   refine PySem.SeqAt.compareEq_reads za zb h1 h2 ?_ ⟨.bl _,H,I,rfl,d_9 o g (.bl _)⟩
   have:=Nat.min_le_left (l_7 a).depth (l_7 b).depth
   omega
  ·exact o.elim
theorem v_5(hu:X.A.units + 64 < cLine):OpD X (compareOp .NotEq) neD:=by
 intro zd s σ H x y v u Q I rx ry q
 obtain⟨EX,G,a,b,g,ra,rb,o⟩:=q
 unfold neD at o
 split at o
 ·rename_i x y
  cases ra
  cases rb
  exact cv_4 zd s σ H _ _ _ _ Q I rx ry ⟨rfl,by rw [bc_1];exact d_9 o g (.bl _)⟩
 ·split at o
  ·rename_i hc
   unfold eqC at hc
   rw [Bool.and_eq_true,Bool.and_eq_true] at hc
   obtain⟨⟨h1,h2⟩,h3⟩:=hc
   have h3:=of_decide_eq_true h3
   obtain⟨as,za⟩:=Has.reads rfl I g h1 ra rx
   obtain⟨bs,zb⟩:=Has.reads rfl I g h2 rb ry
   refine PySem.SeqAt.compareNe_reads za zb h1 h2 ?_ ⟨.bl _,H,I,rfl,d_9 o g (.bl _)⟩
   have:=Nat.min_le_left (l_7 a).depth (l_7 b).depth
   omega
  ·exact o.elim
def flatD:D→Bool
 | .non=>true
 | .bl _=>true
 | .int _=>true
 | .str _=>true
 |_=>false
def flV:D→V
 | .bl b=> .bl b
 | .int i=> .int i
 | .str x=> .str x
 |_=> .non
theorem Has.fl{G:Hp}{d:D}(r:Has K G v d)(f:flatD d=true):v=flV d∧y_7 v=true:=by
 cases r with
 |non=>exact⟨rfl,rfl⟩
 |bl b=>exact⟨rfl,rfl⟩
 |int i=>exact⟨rfl,rfl⟩
 |str x=>exact⟨rfl,rfl⟩
 |lst _ _=>cases f
 |tup _ _=>cases f
 |exn0 _ _=>cases f
 |exn1 _ _ _ _ _=>cases f
 |dic _ _ _=>cases f
 |obj _ _ _ _=>cases f
theorem Has.ofFl{G G':Hp}{d:D}(r:Has K G v d)(f:flatD d=true):Has K G' v d:=by
 cases r with
 |non=>exact .non
 |bl b=>exact .bl b
 |int i=>exact .int i
 |str x=>exact .str x
 |lst _ _=>cases f
 |tup _ _=>cases f
 |exn0 _ _=>cases f
 |exn1 _ _ _ _ _=>cases f
 |dic _ _ _=>cases f
 |obj _ _ _ _=>cases f
theorem HasL.fl{G:Hp}:∀{vs:List V} {ds:List D},HasL K G vs ds→ds.all flatD=true→vs=ds.map flV∧vs.all y_7=true
 |_,_, .nil,_=>⟨rfl,rfl⟩
 |_,_, .cons h r,f=>by
  rw [List.all_cons,Bool.and_eq_true] at f
  obtain⟨e1,e2⟩:=h.fl f.1
  obtain⟨e3,e4⟩:=HasL.fl r f.2
  exact⟨by rw [List.map_cons,←e1,←e3],by rw [List.all_cons,e2,e4];rfl⟩
def eqF(a b:D):Bool:=eqV (flV a) (flV b)
def y_4(d:D)(ds:List D):Bool:=ds.any fun y=>eqF y d
theorem bn_6(d:D)(ds:List D):inV (flV d) (ds.map flV)=y_4 d ds:=by
 unfold inV y_4
 rw [List.any_map]
 rfl
def inD(neg:Bool):D→D→R W
 | .str i, .str j=> .ok (.sh (.bl (if neg then !(!(Builtin.Str.occurrences j i 0 j.length 1).isEmpty) else !(Builtin.Str.occurrences j i 0 j.length 1).isEmpty)))
 |d, .lst ds=>if(flatD d && ds.all flatD)=true then .ok (.sh (.bl (if neg then !y_4 d ds else y_4 d ds))) else .no
 |d, .tup ds=>if(flatD d && ds.all flatD)=true then .ok (.sh (.bl (if neg then !y_4 d ds else y_4 d ds))) else .no
 |_,_=> .no
theorem bn_7{EX:EXT}{G H:Hp}{x y:V}{d:D}{e:D}{Q:VK}{neg:Bool}(g:Same G H)(ra:Has X.K G x d)(rb:Has X.K G y e)(hd:∀i j,d= .str i→e= .str j→False)(o:Out X.K EX G H (inD neg d e) Q):rIn X.K neg x y H Q:=by
 cases rb with
 |lst h r=>
  rename_i ds
  have o':Out X.K EX G H (if(flatD d && ds.all flatD)=true then .ok (.sh (.bl (if neg then !y_4 d ds else y_4 d ds))) else .no) Q:=by
   cases d <;> exact o
  split at o'
  ·rename_i f
   rw [Bool.and_eq_true] at f
   obtain⟨e1,e2⟩:=ra.fl f.1
   obtain⟨e3,e4⟩:=r.fl f.2
   refine⟨_,_,rfl, .inl (g.seq h),e2,e4, ?_⟩
   rw [e1,e3,bn_6]
   exact d_9 o' g (.bl _)
  ·exact o'.elim
 |tup h r=>
  rename_i ds
  have o':Out X.K EX G H (if(flatD d && ds.all flatD)=true then .ok (.sh (.bl (if neg then !y_4 d ds else y_4 d ds))) else .no) Q:=by
   cases d <;> exact o
  split at o'
  ·rename_i f
   rw [Bool.and_eq_true] at f
   obtain⟨e1,e2⟩:=ra.fl f.1
   obtain⟨e3,e4⟩:=r.fl f.2
   refine⟨_,_,rfl, .inr (Same.tupS g h),e2,e4, ?_⟩
   rw [e1,e3,bn_6]
   exact d_9 o' g (.bl _)
  ·exact o'.elim
 |str j=>
  cases d with
  |str i=>exact(hd i j rfl rfl).elim
  |_=>exact False.elim o
 |_=>cases d <;> exact False.elim o
theorem cr_5:OpD X (compareOp .In) (inD false):=by
 intro zd s σ H x y v u Q I rx ry q
 obtain⟨EX,G,a,b,g,ra,rb,o⟩:=q
 by_cases hs:∃i j,a= .str i∧b= .str j
 ·obtain⟨i,j,rfl,rfl⟩:=hs
  cases ra
  cases rb
  exact br_2 zd s σ H _ _ _ _ Q I rx ry ⟨i,j,rfl,rfl,d_9 o g (.bl _)⟩
 ·exact br_7 zd s σ H _ _ _ _ Q I rx ry (bn_7 g ra rb (fun i j e1 e2=>hs ⟨i,j,e1,e2⟩) o)
theorem as_8:OpD X (compareOp .NotIn) (inD true):=by
 intro zd s σ H x y v u Q I rx ry q
 obtain⟨EX,G,a,b,g,ra,rb,o⟩:=q
 by_cases hs:∃i j,a= .str i∧b= .str j
 ·obtain⟨i,j,rfl,rfl⟩:=hs
  cases ra
  cases rb
  exact av_5 zd s σ H _ _ _ _ Q I rx ry ⟨i,j,rfl,rfl,d_9 o g (.bl _)⟩
 ·exact av_4 zd s σ H _ _ _ _ Q I rx ry (bn_7 g ra rb (fun i j e1 e2=>hs ⟨i,j,e1,e2⟩) o)
def l_6:List D→R W
 | [.str x]=>if x.length≤16777216 then .ok (.sh (.int x.length)) else .no
 | [.lst ds]=> .ok (.sh (.int ds.length))
 | [.tup ds]=> .ok (.sh (.int ds.length))
 |_=> .no
theorem b_9:ab_5 X (.builtin "len") l_6:=by
 intro zd s σ H vs us Q I rv q
 obtain⟨EX,G,ds,g,r,o⟩:=q
 cases r with
 |nil=>exact False.elim o
 |cons h t=>
  cases t with
  |cons _ _=>cases h <;> exact False.elim o
  |nil=>
   cases h with
   |str x=>
    simp only [l_6] at o
    split at o
    ·rename_i hz
     exact av_6 zd s σ H _ _ Q I rv ⟨x,rfl,by rw [sizeLine_eq];exact hz,d_9 o g (.int _)⟩
    ·exact o.elim
   |lst h r=>exact ab_3 zd s σ H _ _ Q I rv ⟨_,_,rfl, .inl (g.seq h),by rw [r.length];exact d_9 o g (.int _)⟩
   |tup h r=>exact ab_3 zd s σ H _ _ Q I rv ⟨_,_,rfl, .inr (Same.tupS g h),by rw [r.length];exact d_9 o g (.int _)⟩
   |_=>exact False.elim o
def maxD:List D→R W
 | [.int i, .int j]=> .ok (.sh (.int (if j > i then j else i)))
 |_=> .no
def minD:List D→R W
 | [.int i, .int j]=> .ok (.sh (.int (if j < i then j else i)))
 |_=> .no
theorem bc_3{G:Hp}{ds:List D}(r:HasL K G vs ds){P:Prop}(h:∀i j,vs= [.int i, .int j]→ds= [.int i, .int j]→P)(n:(∀i j,ds≠ [.int i, .int j])→P):P:=by
 by_cases e:∃i j,ds= [.int i, .int j]
 ·obtain⟨i,j,rfl⟩:=e
  cases r with
  |cons a t=>
   cases t with
   |cons b t2=>
    cases t2
    cases a
    cases b
    exact h i j rfl rfl
 ·exact n fun i j z=>e ⟨i,j,z⟩
theorem ch_0{ds:List D}(h:∀i j,ds≠ [.int i, .int j]):maxD ds= .no:=by
 unfold maxD
 split
 ·rename_i i j;exact absurd rfl (h i j)
 ·rfl
theorem ch_1{ds:List D}(h:∀i j,ds≠ [.int i, .int j]):minD ds= .no:=by
 unfold minD
 split
 ·rename_i i j;exact absurd rfl (h i j)
 ·rfl
theorem x_6(hc:X.calm=true):ab_5 X (.builtin "max") maxD:=by
 intro zd s σ H vs us Q I rv q
 obtain⟨EX,G,ds,g,r,o⟩:=q
 refine bc_3 r (fun i j e1 e2=> ?_) fun n=> ?_
 ·subst e1 e2
  exact br_3 hc zd s σ H _ _ Q I rv ⟨i,j,rfl,d_9 o g (.int _)⟩
 ·rw [ch_0 n] at o;exact o.elim
theorem af_0(hc:X.calm=true):ab_5 X (.builtin "min") minD:=by
 intro zd s σ H vs us Q I rv q
 obtain⟨EX,G,ds,g,r,o⟩:=q
 refine bc_3 r (fun i j e1 e2=> ?_) fun n=> ?_
 ·subst e1 e2
  exact br_4 hc zd s σ H _ _ Q I rv ⟨i,j,rfl,d_9 o g (.int _)⟩
 ·rw [ch_1 n] at o;exact o.elim
def as_9:List D→R W
 | [.int i]=> .ok (.sh (.int i))
 | [.bl k]=> .ok (.sh (.int (if k then 1 else 0)))
 |_=> .no
theorem bj_3:ab_5 X (.type "int") as_9:=by
 intro zd s σ H vs us Q I rv q
 obtain⟨EX,G,ds,g,r,o⟩:=q
 cases r with
 |nil=>exact False.elim o
 |cons h t=>
  cases t with
  |cons _ _=>cases h <;> exact False.elim o
  |nil=>
   cases h with
   |int i=>exact ar_6 zd s σ H _ _ Q I rv (.inl ⟨i,rfl,d_9 o g (.int _)⟩)
   |bl k=>exact ar_6 zd s σ H _ _ Q I rv (.inr ⟨k,rfl,d_9 o g (.int _)⟩)
   |_=>exact False.elim o
def s_0:List D→R W
 | [.lst ds]=> .ok (.ow (.lst ds))
 | [.tup ds]=> .ok (.ow (.lst ds))
 |_=> .no
theorem v_6:ab_5 X (.type "list") s_0:=by
 intro zd s σ H vs us Q I rv q
 obtain⟨EX,G,ds,g,r,o⟩:=q
 cases r with
 |nil=>exact False.elim o
 |cons h t=>
  cases t with
  |cons _ _=>cases h <;> exact False.elim o
  |nil=>
   cases h with
   |lst h r=>exact ab_4 zd s σ H _ _ Q I rv ⟨_,_,rfl, .inl (g.seq h),q_4 o g r⟩
   |tup h r=>exact ab_4 zd s σ H _ _ Q I rv ⟨_,_,rfl, .inr (Same.tupS g h),q_4 o g r⟩
   |_=>exact False.elim o
end
structure RoomC(c:Bool)(k:Nat)(A:Around):Prop where
 hd:c=true→A.handled=none
 dp:A.depth + 3 * k + 5 < recursionLimit
 un:A.units + 16 * k + 200 < cLine
theorem RoomC.mono{c:Bool}{j k:Nat}{A:Around}(r:RoomC c k A)(h:j≤k):RoomC c j A:=⟨r.hd,by have:=r.dp;omega,by have:=r.un;omega⟩
theorem RoomC.deeper{c:Bool}{k:Nat}{A:Around}(r:RoomC c (k + 1) A)(env:Env):RoomC c k (A.deeper env):=
 ⟨r.hd,by have:=r.dp;show A.depth + 1 + 3 * k + 5 < _;omega,by have:=r.un;show A.units + 3 + 16 * k + 200 < _;omega⟩
theorem RoomC.make{c:Bool}{k:Nat}{A:Around}(r:RoomC c (k + 1) A)(C:Addr)(us:List Value)(kw:List (Str×Value)):RoomC c k (A.under (.builtin "type.__call__" ⟨.ref C::us,kw⟩)):=
 ⟨r.hd,by have:=r.dp;rw [al_3];omega,by have:=r.un;rw [al_4];omega⟩
theorem RoomC.any{c:Bool}{k:Nat}{A:Around}(r:RoomC true k A):RoomC c k A:=⟨fun _=>r.hd rfl,r.dp,r.un⟩
theorem RoomC.loose{c:Bool}{k:Nat}{A:Around}(r:RoomC c k A):RoomC false k A:=⟨fun z=>absurd z Bool.false_ne_true,r.dp,r.un⟩
theorem RoomC.mark{c:Bool}{k:Nat}{A:Around}(r:RoomC c k A)(h:Option Value):RoomC false k (A.mark h):=⟨fun z=>absurd z Bool.false_ne_true,r.dp,r.un⟩
theorem RoomC.of{k:Nat}{A:Around}(r:Room k A):RoomC true k A:=⟨fun _=>r.hd,r.dp,r.un⟩
structure FnX(P:Program)(w:World)(K:Frag)(mg:Str→Option Value)(base:Heap)(c:Bool)(k:Nat)(f:Addr)(fd:FuncData)(ps:List Str)(sp:Sp):Prop where
 len:∀vs H Q E,sp vs H Q E→vs.length=ps.length
 run:∀(A:Around) (outer:List Env) (s:Shared) (H:Hp) (args:Args) (us:List Value) (vs:List V) (Q:VK) (E:XK),RoomC c k A→Env0 P w K mg base A outer s H→BindsTo s fd args (ps.zip us)→Vals vs us→sp vs H Q E→
  codeAny (model P w) A (.call (.ref f) args) (CR (CXr P w) outer P w H s Q E) s
theorem FnX.mono{w:World}{c:Bool}{j k:Nat}{f:Addr}{ps:List Str}{sp:Sp}(F:FnX P w K mg base c j f fd ps sp)(h:j≤k):FnX P w K mg base c k f fd ps sp:=
 ⟨F.len,fun A outer s H args us vs Q E hr=>F.run A outer s H args us vs Q E (hr.mono h)⟩
abbrev cxN(c:Bool)(P:Program)(w:World)(K:Frag)(mg:Str→Option Value)(base:Heap)(N:List Str)(qual:Str)(scope:Scope)(f:Addr)(cd:Value)(A:Around)(outer:List Env)(s:Shared)(H:Hp)(E:XK):Cx:=
 {z_9 (CXr P w) P w K mg base N qual scope f cd A outer s H E with calm:=c}
theorem bj_4{c:Bool}{w:World}{N ps:List Str}{qual:Str}{scope:Scope}{f:Addr}{cd:Value}{A:Around}{outer:List Env}{s s1:Shared}{E:XK}{vs:List V}
  (S:FnScope N ps scope) (hd:c=true→A.handled=none) (e0:Env0 P w K mg base A outer s H) (hl:vs.length=ps.length) (r:Vals vs us)
  (x:InCallC s s.heap.objs.size (bindL (envOfC qual scope s.heap.objs.size f cd).kindOf (ps.zip us) fun _=>none) (cellsFrom (s.heap.objs.size + 1) scope.names []) (bindC (envOfC qual scope s.heap.objs.size f cd).kindOf (ps.zip us) fun _=>none) s1):
  Inv (cxN c P w K mg base N qual scope f cd A outer s H E) [] (h_7 N vs) H s1:=by
 have I:=as_3 (CX:=CXr P w) (E:=E) (qual:=qual) (f:=f) (cd:=cd) (A:={A with handled:=none}) S rfl ⟨e0.frames,e0.mod,e0.bs,e0.bsz,e0.funs,e0.frf,e0.hok,e0.bare⟩ hl r x
 exact⟨⟨I.ok.mod,I.ok.kind,I.ok.glob,I.ok.blt,I.ok.above,I.ok.inj,I.ok.has,I.ok.cab,hd,Around.frames_deeper e0.frames,I.ok.stk,I.ok.exf,I.ok.bs,I.ok.bsz,I.ok.noex,I.ok.exfs,I.ok.funs,I.ok.frf⟩,
  I.os,I.bare,I.base,I.loc,I.cell,I.free,I.freeC,I.pin,I.hok,I.len⟩
theorem cr_6{c:Bool}{w:World}{k:Nat}{f:Addr}{name qual:Str}{params:Arguments}{body:List Stmt}{scope:Scope}{dV kV doc pm zn ct oc:Value}{an od:Option Addr}
  {osl:Array (Option Value)} {N ps:List Str} {sp:Sp} (lk:K.lookup f=some ⟨oc,od, .func (fnOf name qual params body scope dV kV doc pm an zn ct),osl⟩) (hcd:codeIn K zn qual=true) (S:FnScope N ps scope)
  (len:∀vs H Q E,sp vs H Q E→vs.length=ps.length)
  (zj:∀(A:Around) (outer:List Env) (s:Shared) (H:Hp) (vs:List V) (Q:VK) (E:XK),RoomC c k (A.deeper (envOfC qual scope s.heap.objs.size f zn))→sp vs H Q E→
   ∃t,PSs (cxN c P w K mg base N qual scope f zn A outer s H E) body t∧t {nx:=fun _ H'=>Q .non H',rt:=Q} (h_7 N vs) H):
  FnX P w K mg base c (k + 1) f (fnOf name qual params body scope dV kV doc pm an zn ct) ps sp:=by
 refine⟨len,fun A outer s H args us vs Q E hr e0 hb r hsp=> ?_⟩
 have hl:=len _ _ _ _ hsp
 have KX:K.In s.heap:=e0.mod.kin.keeps fun b o e=>(e0.bs b o e).1
 have lim:s.heap.NoLimit:=e0.mod.nolimit.keeps fun b o e=>(e0.bs b o e).1
 have az:∀y∈ps.zip us,scope.names.lookup y.1=some .local∨(scope.names.lookup y.1=some .cell∧((cellsFrom (s.heap.objs.size + 1) scope.names []).lookup y.1).isSome=true):=fun⟨n,v⟩ hy=>by
  rcases S.par n (List.of_mem_zip hy).1 with q|q
  ·exact .inl q
  ·exact .inr ⟨q,cellsFrom_some _ _ _ (.inl q)⟩
 have dp:A.depth < recursionLimit:=by have:=hr.dp;omega
 refine codeAny_call_function dp (KX _ _ lk) rfl S.co S.gen rfl (codeRec_of KX hcd) (hb _ _ _ _ ?_)
 refine wpAny_newFunctionEnv_cells S.kind az fun env he s1 x=> ?_
 subst he
 refine⟨lim.keeps x.toInCall.keep,codeAny_func ?_⟩
 obtain⟨t,ht,hq⟩:=zj A outer s H vs Q E (hr.deeper _) hsp
 have I:Inv (cxN c P w K mg base N qual scope f zn A outer s H E) [] (h_7 N vs) H s1:=bj_4 S hr.hd e0 hl r x
 refine wpAny_mono (ht [] s1 (h_7 N vs) H _ I hq) (fun fl s' hs=> ?_) fun e s' hs=>hs
 have fin:∀{σ':Sg} {H':Hp} {v:V} {u:Value},Inv (cxN c P w K mg base N qual scope f zn A outer s H E) [] σ' H' s'→RelV v u→Q v H'→CE outer P w H s Q u s':=
  fun{σ' H' v u} J rv q=>⟨v,H',J.os,J.bare,J.base,J.hok,rv,q⟩
 cases fl with
 |ret u=>
  obtain⟨v,σ',H',J,rv,q⟩:=hs
  exact fin J rv q
 |next=>
  obtain⟨σ',H',J,q⟩:=hs
  exact fin (v:=V.non) (u:=Value.none) J rfl q
 |brk=>
  obtain⟨_,_,_,q⟩:=hs
  exact False.elim q
 |cont=>
  obtain⟨_,_,_,q⟩:=hs
  exact False.elim q
theorem Fun.okX{c:Bool}{w:World}{x qual:Str}{st:Stmt}{f:Addr}{N ps:List Str}{k:Nat}{sp:Sp}(F:Fun K x qual st f fd)(S:FnScope N ps (a_8 st))(len:∀vs H Q E,sp vs H Q E→vs.length=ps.length)
  (zj:∀(zn:Value) (A:Around) (outer:List Env) (s:Shared) (H:Hp) (vs:List V) (Q:VK) (E:XK),RoomC c k (A.deeper (envOfC qual (a_8 st) s.heap.objs.size f zn))→sp vs H Q E→
   ∃t,PSs (cxN c P w K mg base N qual (a_8 st) f zn A outer s H E) (d_7 st) t∧t {nx:=fun _ H'=>Q .non H',rt:=Q} (h_7 N vs) H):FnX P w K mg base c (k + 1) f fd ps sp:=by
 obtain⟨oc,od,kV,doc,pm,an,zn,ct,osl,rfl,lk,hcd⟩:=F.ex
 exact cr_6 lk hcd S len fun A outer s H vs Q E hr hsp=>zj zn A outer s H vs Q E hr hsp
def Lk(X:Cx)(EX:EXS):Prop:=∀(zd:List (Addr×Obj)) (σ:Sg) (H:Hp) (s:Shared) (e:Value) (s':Shared),Inv X zd σ H s→CXr X.prog X.w X.stack H s (EXE X.K (EX σ)) e s'→X.xe e s'
theorem g_2:Lk X l_5:=fun zd σ H s e s' I c=>by
 obtain⟨a,C,dx,T,H',_,_,_,_,_,_,_,_,_,_,x,G,_,_,q⟩:=c
 exact False.elim q
theorem bx_6{c:Bool}{w:World}{N:List Str}{qual:Str}{scope:Scope}{f:Addr}{cd:Value}{A:Around}{outer:List Env}{s:Shared}{E:XK}:
  Lk (cxN c P w K mg base N qual scope f cd A outer s H E) (fun _=>EXof K E):=fun zd σ H s e s' I h=>bs_0 I h fun cls dx H' q=>q.of
def spX(K:Frag)(n:Nat)(F:List D→R W):Sp:=fun vs H Q E=>vs.length=n∧∃G ds,Same G H∧HasL K G vs ds∧Out K (EXof K E) G H (F ds) Q
def eFn(n:Nat)(F:List D→R W)(fa:FA):FE:=fun δ=>(fa δ).bind fun ds=>if ds.length=n then F ds else .no
def FnD(P:Program)(w:World)(K:Frag)(mg:Str→Option Value)(base:Heap)(c:Bool)(x:Str)(k:Nat)(ps:List Str)(F:List D→R W):Prop:=
 ∃f fd,FnX P w K mg base c k f fd ps (spX K ps.length F)∧mg x=some (.ref f)∧keepIn K (.ref f)=true∧Binds K fd ps []
section
variable{X:Cx}{EX:EXS}{e:Expr}{es:List Expr}{fa:FA}{x:Str}{pp pos:Pos}{c:Bool}{k k':Nat}{ps:List Str}{F:List D→R W}
theorem aj_3{zd:List (Addr×Obj)}{σ:Sg}{s:Shared}{Q:VK}{f:Addr}{sp:Sp}(F:FnX X.prog X.w X.K X.mg X.base c k f fd ps sp)(hr:RoomC c k X.A)(hb:Binds X.K fd ps [])(lk:Lk X EX)
  (I:Inv X zd σ H s) (r:Vals vs us) (h:sp vs H Q (EXE X.K (EX σ))):wpAny (model X.prog X.w) X.A (call (.ref f) us) (EP X zd σ Q) X.xe s:=by
 have hl:us.length=ps.length:=by rw [←r.length];exact F.len _ _ _ _ h
 have hb':=hb s us I.kIn (by rw [List.append_nil];exact hl)
 rw [List.append_nil] at hb'
 refine wpAny_call (codeAny_mono (F.run X.A X.stack s H ⟨us, []⟩ us vs Q _ hr I.env0 hb' r h) fun r s' hq=> ?_)
 cases r with
 |error e=>exact lk zd σ H s e s' I hq
 |ok fl=>
  cases fl with
  |ret u=>exact I.after hq
  |next=>exact False.elim hq
  |brk=>exact False.elim hq
  |cont=>exact False.elim hq
theorem a_6(hr:RoomC c k' X.A)(lk:Lk X EX)(h:FnD X.prog X.w X.K X.mg X.base c x k ps F)(ha:AD X EX (e::es) fa)(hk:k≤k':=by decide)(hg:Gl X x:=by rfl)(hdb:(x ==("__debug__" :Str))=false:=by decide)
  (he:starEach (e::es) X.env=(false,eval e X.env)::starEach es X.env:=by rfl) (hpl:(backTo pos (starEach es X.env)).any (·.1)=false:=by rfl):
  ED X EX (.Call (.Name x pp) (e::es) [] pos) (eFn ps.length F fa):=by
 obtain⟨f,fd,ok,hm,kp,hb⟩:=h
 intro zd s σ H Q I q
 obtain⟨G,δ,g0,s0,o⟩:=q
 refine wpAny_Call_Name_kw (q_3 I hg hm ?_ hdb)
 have ta:tDa X.K EX fa σ H fun vs H1=>spX X.K ps.length F vs H1 Q (EXE X.K (EX σ)):=by
  refine tDa.seq g0 s0 o fun ds vs G' H' _ st r o'=> ?_
  split at o'
  ·rename_i hl
   refine⟨by rw [r.length];exact hl,G',ds,st.gh,r, ?_⟩
   cases q:F ds with
   |ok w=>rw [q] at o';exact o'
   |ex x=>rw [q] at o';exact EXof.in o'
   |no=>rw [q] at o';exact o'.elim
  ·exact o'.elim
 refine callWith_K (h₀:=X.base) I.ok.mod.kin kp (thn (ha pos zd s σ H _ I ta) fun us s1 ⟨vs,H1,I1,r,q⟩=>⟨I1.kIn, ?_⟩) he hpl
 exact aj_3 ok (hr.mono hk) hb lk I1 r q
end
inductive Sl where
 |no|sh (d:D)|ow (d:D)|tr (t:Tn)|lk (d:D)|lt (t:Tn)
abbrev SE:=List Sl
inductive Fl where
 |nx (Δ:SE)|rt (w:W)|bk (Δ:SE)|ct (Δ:SE)|ex (x:Xn) (Δ:SE)|no
abbrev FS:=SE→Fl
def Sl.pub:Sl→Option D
 | .sh d=>some d
 |_=>none
def Sl.any:Sl→Option D
 | .sh d=>some d
 | .ow d=>some d
 | .tr t=>some t.d
 | .lk d=>some d
 | .lt t=>some t.d
 | .no=>none
def Sl.give:Sl→Sl
 | .ow d=> .sh d
 | .tr t=> .sh t.d
 |s=>s
def Sl.own:Sl→Option Tn
 | .ow d=>some (Tn.of d)
 | .tr t=>some t
 | .lk d=>some (Tn.of d)
 | .lt t=>some t
 |_=>none
def vsh(Δ:SE):DE:=Δ.map Sl.pub
def vall(Δ:SE):DE:=Δ.map Sl.any
def gall(Δ:SE):SE:=Δ.map Sl.give
abbrev OS:=Nat→AS
structure HB where
 h:Hp
 b:Nat→Addr
structure Ev(K:Frag)(H0:HB)(G0 G H:Hp)(σ:Sg)(Δ:SE)(A:OS):Prop where
 st:Step G0 H0.h G H
 len:σ.length=Δ.length
 sh:∀(i:Nat) (d:D),Δ[i]? =some (.sh d)→∃v,σ[i]? =some (some v)∧Has K G v d
 ow:∀(i:Nat) (s:Sl) (t:Tn),Δ[i]? =some s→s.own=some t→∃v,σ[i]? =some (some v)∧Ow K G H v t (A i)
 out:∀(i:Nat) (a:Addr),A i a→G a=none∧H0.h a=none∧H a≠none
 dj:∀(i j:Nat) (a:Addr),A i a→A j a→i=j
 lk:∀(i:Nat) (d:D),Δ[i]? =some (.lk d)→σ[i]? =some (some (.ref (H0.b i)))
 lt:∀(i:Nat) (t:Tn),Δ[i]? =some (.lt t)→σ[i]? =some (some (.ref (H0.b i)))
def allG(G H:Hp)(A:OS):Hp:=l_0 G H fun b=>∃i,A i b
structure MStep(S:AS)(G H G' H':Hp):Prop where
 hh:∀b o,¬S b→H b=some o→H' b=some o
 al:∀b,H b≠none→H' b≠none
 gh:Same G' H'
 gg:Same G G'
 nw:∀b,G b=none→H b≠none→G' b=none
structure MStep2(S:AS)(G H G' H':Hp):Prop where
 hh:∀b o,¬S b→H b=some o→H' b=some o
 gh:Same G' H'
 gg:Same G G'
 nw:∀b,¬S b→G b=none→H b≠none→G' b=none
theorem MStep.weak{S:AS}{G H G' H':Hp}(m:MStep S G H G' H'):MStep2 S G H G' H':=⟨m.hh,m.gh,m.gg,fun b _=>m.nw b⟩
theorem Step.m{S:AS}{G H G' H':Hp}(s:Step G H G' H'):MStep S G H G' H':=⟨fun b o _ q=>s.hh b o q,fun b n z=>n (s.hh.free z),s.gh,s.gg,s.nw⟩
theorem MStep.andThen{S:AS}{G H G1 H1 G2 H2:Hp}(a:MStep S G H G1 H1)(b:Step G1 H1 G2 H2):MStep S G H G2 H2:=
 ⟨fun c o n q=>b.hh c o (a.hh c o n q),fun c n z=>a.al c n (b.hh.free z),b.gh,a.gg.trans b.gg,fun c e n=>b.nw c (a.nw c e n) (a.al c n)⟩
theorem MStep.write{S:AS}{G H:Hp}(g:Same G H){a:Addr}(hs:S a)(n:G a=none)(o:HO):MStep S G H G (L2.upd H a o):=
 ⟨fun b o' nb q=>by rw [b_0 (fun z=>nb (by rw [z];exact hs))];exact q,fun b nb=>by
  by_cases z:b=a
  ·subst z;rw [b_6];simp
  ·rw [b_0 z];exact nb,fun b o' q=>by
  by_cases z:b=a
  ·subst z;rw [n] at q;cases q
  ·rw [b_0 z];exact g b o' q,Same.refl _,fun _ e _=>e⟩
def setA(A:OS)(i:Nat)(S:AS):OS:=fun j=>if j=i then S else A j
theorem g_9{A:OS}{i:Nat}{S:AS}:setA A i S i=S:=if_pos rfl
theorem g_8{A:OS}{i j:Nat}{S:AS}(h:j≠i):setA A i S j=A j:=if_neg h
section
variable{K:Frag}{H0:HB}{G0 G H G' H':Hp}{σ:Sg}{Δ:SE}{A:OS}
theorem Ev.gsh(E:Ev K H0 G0 G H σ Δ A):HasS K G σ (vsh Δ):=⟨by rw [E.len];unfold vsh;rw [List.length_map],fun i d q=>by
 unfold vsh at q
 rw [List.getElem?_map] at q
 cases e:Δ[i]? with
 |none=>rw [e] at q;cases q
 |some z=>
  rw [e] at q
  cases z with
  |sh d'=>cases q;exact E.sh i d e
  |_=>cases q⟩
theorem Ev.aH(E:Ev K H0 G0 G H σ Δ A):Same (allG G H A) H:=fun b o q=>by
 unfold allG l_0 at q
 split at q
 ·exact q
 ·exact E.st.gh b o q
theorem Ev.aG(E:Ev K H0 G0 G H σ Δ A):Same G (allG G H A):=fun b o q=>by
 unfold allG l_0
 split
 ·rename_i hb;obtain⟨i,hb⟩:=hb;rw [(E.out i b hb).1] at q;cases q
 ·exact q
theorem Ev.aStep(E:Ev K H0 G0 G H σ Δ A):Step G0 H0.h (allG G H A) H:=
 ⟨E.st.hh,E.aH,E.st.gg.trans E.aG,fun b n z=>by
  unfold allG l_0
  split
  ·rename_i hb;obtain⟨i,hb⟩:=hb;exact absurd (E.out i b hb).2.1 z
  ·exact E.st.nw b n z⟩
theorem Ev.aIn{A:OS}{G H:Hp}{i:Nat}{b:Addr}{o:HO}(hb:A i b)(q:H b=some o):allG G H A b=some o:=by
 unfold allG l_0
 rw [if_pos ⟨i,hb⟩]
 exact q
theorem Ev.gall(E:Ev K H0 G0 G H σ Δ A):HasS K (allG G H A) σ (vall Δ):=⟨by rw [E.len];unfold vall;rw [List.length_map],fun i d q=>by
 unfold vall at q
 rw [List.getElem?_map] at q
 cases e:Δ[i]? with
 |none=>rw [e] at q;cases q
 |some z=>
  rw [e] at q
  cases z with
  |sh d'=>
   cases q
   obtain⟨v,e1,r⟩:=E.sh i d e
   exact⟨v,e1,r.mono E.aG⟩
  |ow d'=>
   cases q
   obtain⟨v,e1,t⟩:=E.ow i _ _ e rfl
   have r:=t.has E.aG fun b o hb q=>Ev.aIn hb q
   rw [Tn.of_d] at r
   exact⟨v,e1,r⟩
  |tr t'=>
   cases q
   obtain⟨v,e1,t⟩:=E.ow i _ _ e rfl
   exact⟨v,e1,t.has E.aG fun b o hb q=>Ev.aIn hb q⟩
  |lk d'=>
   cases q
   obtain⟨v,e1,t⟩:=E.ow i _ _ e rfl
   have r:=t.has E.aG fun b o hb q=>Ev.aIn hb q
   rw [Tn.of_d] at r
   exact⟨v,e1,r⟩
  |lt t'=>
   cases q
   obtain⟨v,e1,t⟩:=E.ow i _ _ e rfl
   exact⟨v,e1,t.has E.aG fun b o hb q=>Ev.aIn hb q⟩
  |no=>cases q⟩
theorem Ev.grow(E:Ev K H0 G0 G H σ Δ A)(s:Step G H G' H'):Ev K H0 G0 G' H' σ Δ A:=
 ⟨E.st.trans s,E.len,fun i d e=>let⟨v,e1,r⟩:=E.sh i d e;⟨v,e1,r.mono s.gg⟩,fun i z d e z'=>let⟨v,e1,t⟩:=E.ow i z d e z';⟨v,e1,t.mono s.gg (fun b o _ q=>s.hh b o q) fun _ q=>q⟩,
  fun i a ha=>let⟨h1,h2,h3⟩:=E.out i a ha;⟨s.nw a h1 h3,h2,fun z=>h3 (s.hh.free z)⟩,E.dj,E.lk,E.lt⟩
theorem Ev.keep(E:Ev K H0 G0 G H σ Δ A)(s:Same H H'):Ev K H0 G0 G H' σ Δ A:=
 E.grow ⟨s,E.st.gh.trans s,Same.refl _,fun _ n _=>n⟩
theorem g_5{α:Type}{l:List α}{i j:Nat}{x y:α}(h:(l.set i x)[j]? =some y):(i=j∧y=x)∨(i≠j∧l[j]? =some y):=by
 by_cases e:i=j
 ·subst e
  rw [List.getElem?_set] at h
  simp only [if_true] at h
  split at h
  ·exact .inl ⟨rfl,(Option.some.inj h).symm⟩
  ·cases h
 ·rw [List.getElem?_set_ne e] at h
  exact .inr ⟨e,h⟩
theorem bj_5{α:Type}{l:List α}{i:Nat}{x y:α}(h:(l.set i x)[i]? =some y):i < l.length:=by
 by_cases hh:i < l.length
 ·exact hh
 ·rw [List.getElem?_eq_none (by rw [List.length_set];omega)] at h;cases h
theorem Ev.put(E:Ev K H0 G0 G H σ Δ A){i:Nat}{d:D}(r:Has K G v d):Ev K H0 G0 G H (σ.set i (some v)) (Δ.set i (.sh d)) A:=by
 refine⟨E.st,by rw [List.length_set,List.length_set];exact E.len,fun j d' e=> ?_,fun j z d' e zo=> ?_,E.out,E.dj,fun j d' e=> ?_,fun j d' e=> ?_⟩
 ·rcases g_5 e with⟨rfl,q⟩|⟨n,q⟩
  ·cases q
   exact⟨v,by rw [List.getElem?_set_self (by rw [E.len];exact bj_5 e)],r⟩
  ·obtain⟨v',e1,r'⟩:=E.sh j d' q
   exact⟨v',by rw [List.getElem?_set_ne n];exact e1,r'⟩
 ·rcases g_5 e with⟨rfl,q⟩|⟨n,q⟩
  ·subst q;cases zo
  ·obtain⟨v',e1,t⟩:=E.ow j z d' q zo
   exact⟨v',by rw [List.getElem?_set_ne n];exact e1,t⟩
 ·rcases g_5 e with⟨rfl,q⟩|⟨n,q⟩
  ·cases q
  ·rw [List.getElem?_set_ne n];exact E.lk j d' q
 ·rcases g_5 e with⟨rfl,q⟩|⟨n,q⟩
  ·cases q
  ·rw [List.getElem?_set_ne n];exact E.lt j d' q
theorem Ev.putO(E:Ev K H0 G0 G H σ Δ A){i:Nat}{z:Sl}{d:Tn}{S:AS}(fr:∀a,S a→H0.h a=none∧G a=none∧H a≠none)(zo:z.own=some d)(zl:∀d,z≠ .lk d)(t:Ow K G H v d S)(nw:∀j a,A j a→¬S a)(zt:∀d,z= .lt d→v= .ref (H0.b i):=by intro _ z;cases z):
  Ev K H0 G0 G H (σ.set i (some v)) (Δ.set i z) (setA A i S):=by
 refine⟨E.st,by rw [List.length_set,List.length_set];exact E.len,fun j d' e'=> ?_,fun j z' d' e' zo'=> ?_,fun j a ha=> ?_,fun j j' a h1 h2=> ?_,fun j d' e'=> ?_,fun j d' e'=> ?_⟩
 ·rcases g_5 e' with⟨rfl,q⟩|⟨nn,q⟩
  ·subst q;cases zo
  ·obtain⟨v',e1,r'⟩:=E.sh j d' q
   exact⟨v',by rw [List.getElem?_set_ne nn];exact e1,r'⟩
 ·rcases g_5 e' with⟨rfl,q⟩|⟨nn,q⟩
  ·subst q
   rw [zo] at zo'
   cases zo'
   exact⟨v,by rw [List.getElem?_set_self (by rw [E.len];exact bj_5 e')],by rw [g_9];exact t⟩
  ·obtain⟨v',e1,x⟩:=E.ow j z' d' q zo'
   exact⟨v',by rw [List.getElem?_set_ne nn];exact e1,by rw [g_8 (Ne.symm nn)];exact x⟩
 ·by_cases z:j=i
  ·subst z
   rw [g_9] at ha
   obtain⟨a1,a2,a3⟩:=fr a ha
   exact⟨a2,a1,a3⟩
  ·rw [g_8 z] at ha
   exact E.out j a ha
 ·by_cases z:j=i
  ·by_cases z':j'=i
   ·rw [z,z']
   ·rw [z,g_9] at h1
    rw [g_8 z'] at h2
    exact absurd h1 (nw j' a h2)
  ·by_cases z':j'=i
   ·rw [g_8 z] at h1
    rw [z',g_9] at h2
    exact absurd h2 (nw j a h1)
   ·rw [g_8 z] at h1
    rw [g_8 z'] at h2
    exact E.dj j j' a h1 h2
 ·rcases g_5 e' with⟨rfl,q⟩|⟨nn,q⟩
  ·exact absurd q.symm (zl d')
  ·rw [List.getElem?_set_ne nn];exact E.lk j d' q
 ·rcases g_5 e' with⟨rfl,q⟩|⟨nn,q⟩
  ·rw [List.getElem?_set_self (by rw [E.len];exact bj_5 e'),zt d' q.symm]
  ·rw [List.getElem?_set_ne nn];exact E.lt j d' q
theorem Ev.step2(E:Ev K H0 G0 G H σ Δ A){i:Nat}{z:Sl}{d':Tn}{S:AS}(zo:z.own=some d')(zl:∀d,z≠ .lk d)(zt:∀d,z= .lt d→σ[i]? =some (some (.ref (H0.b i))))(ms:MStep2 (A i) G H G' H')(s:σ[i]? =some (some v))(fr:∀a,S a→(A i a∨H a=none)∧G' a=none∧H' a≠none)(t:Ow K G' H' v d' S):
  Ev K H0 G0 G' H' σ (Δ.set i z) (setA A i S):=by
 have st:Step G0 H0.h G' H':=⟨fun b o q=>ms.hh b o (fun hb=>by rw [(E.out i b hb).2.1] at q;cases q) (E.st.hh b o q),ms.gh,E.st.gg.trans ms.gg,
  fun b n z=>ms.nw b (fun hb=>z (E.out i b hb).2.1) (E.st.nw b n z) fun q=>z (E.st.hh.free q)⟩
 refine⟨st,by rw [List.length_set];exact E.len,fun j d2 e'=> ?_,fun j z' d2 e' zo'=> ?_,fun j a ha=> ?_,fun j j' a h1 h2=> ?_,fun j d2 e'=> ?_,fun j d2 e'=> ?_⟩
 ·rcases g_5 e' with⟨rfl,q⟩|⟨nn,q⟩
  ·subst q;cases zo
  ·obtain⟨v',e1,r'⟩:=E.sh j d2 q
   exact⟨v',e1,r'.mono ms.gg⟩
 ·rcases g_5 e' with⟨rfl,q⟩|⟨nn,q⟩
  ·subst q
   rw [zo] at zo'
   cases zo'
   exact⟨v,s,by rw [g_9];exact t⟩
  ·obtain⟨v',e1,x⟩:=E.ow j z' d2 q zo'
   rw [g_8 (Ne.symm nn)]
   exact⟨v',e1,x.mono ms.gg (fun b o hb q=>ms.hh b o (fun hi=>nn (E.dj i j b hi hb)) q) fun _ q=>q⟩
 ·by_cases z:j=i
  ·subst z
   rw [g_9] at ha
   obtain⟨a1,a2,a3⟩:=fr a ha
   refine⟨a2, ?_,a3⟩
   rcases a1 with a1|a1
   ·exact(E.out j a a1).2.1
   ·exact E.st.hh.free a1
  ·rw [g_8 z] at ha
   obtain⟨h1,h2,h3⟩:=E.out j a ha
   have hn:¬A i a:=fun hb=>z (E.dj j i a ha hb)
   refine⟨ms.nw a hn h1 h3,h2,fun q=> ?_⟩
   cases e:H a with
   |none=>exact h3 e
   |some o=>rw [ms.hh a o hn e] at q;cases q
 ·have own:∀k,k≠i→A k a→¬S a:=fun k nk hk hs=>by
   rcases(fr a hs).1 with q|q
   ·exact nk (E.dj k i a hk q)
   ·exact(E.out k a hk).2.2 q
  by_cases z:j=i
  ·by_cases z':j'=i
   ·rw [z,z']
   ·rw [z,g_9] at h1
    rw [g_8 z'] at h2
    exact absurd h1 (own j' z' h2)
  ·by_cases z':j'=i
   ·rw [g_8 z] at h1
    rw [z',g_9] at h2
    exact absurd h2 (own j z h1)
   ·rw [g_8 z] at h1
    rw [g_8 z'] at h2
    exact E.dj j j' a h1 h2
 ·rcases g_5 e' with⟨rfl,q⟩|⟨nn,q⟩
  ·exact absurd q.symm (zl d2)
  ·exact E.lk j d2 q
 ·rcases g_5 e' with⟨rfl,q⟩|⟨nn,q⟩
  ·exact zt d2 q.symm
  ·exact E.lt j d2 q
theorem Ev.step(E:Ev K H0 G0 G H σ Δ A){i:Nat}{z:Sl}{d':Tn}{S:AS}(zo:z.own=some d')(zl:∀d,z≠ .lk d)(ms:MStep (A i) G H G' H')(s:σ[i]? =some (some v))(fr:∀a,S a→(A i a∨H a=none)∧G' a=none∧H' a≠none)(t:Ow K G' H' v d' S)(zt:∀d,z≠ .lt d:=by intro _ z;cases z):
  Ev K H0 G0 G' H' σ (Δ.set i z) (setA A i S):=E.step2 zo zl (fun d e=>absurd e (zt d)) ms.weak s fr t
theorem Ev.writeL(E:Ev K H0 G0 G H σ Δ A){i:Nat}{a:Addr}{ds:List D}(s:σ[i]? =some (some (.ref a)))(m:A i a)(r:HasL K G vs ds):Ev K H0 G0 G (upd H a (.lst vs)) σ (Δ.set i (.ow (.lst ds))) (setA A i (A i)):=
 have ms:=MStep.write E.st.gh m (E.out i a m).1 (.lst vs)
 E.step rfl (fun _ z=>by cases z) ms s (fun b hb=>⟨.inl hb,(E.out i b hb).1,ms.al b (E.out i b hb).2.2⟩) (Ow.list b_6 m r)
theorem Ev.writeD(E:Ev K H0 G0 G H σ Δ A){i:Nat}{a:Addr}{kvs:List (Key×V)}{kds:List (Key×D)}(s:σ[i]? =some (some (.ref a)))(m:A i a)(hk:kvs.map (·.1)=kds.map (·.1))(r:HasL K G (kvs.map (·.2)) (kds.map (·.2))):Ev K H0 G0 G (upd H a (.dK kvs)) σ (Δ.set i (.ow (.dic kds))) (setA A i (A i)):=
 have ms:=MStep.write E.st.gh m (E.out i a m).1 (.dK kvs)
 E.step rfl (fun _ z=>by cases z) ms s (fun b hb=>⟨.inl hb,(E.out i b hb).1,ms.al b (E.out i b hb).2.2⟩) (Ow.dict b_6 hk m r)
end
def give1(Δ:SE)(j:Nat):SE:=match Δ[j]? with
 |some s=>Δ.set j s.give
 |none=>Δ
def gsome(js:List Nat)(Δ:SE):SE:=js.foldl give1 Δ
section
variable{K:Frag}{H0:HB}{G0 G H:Hp}{σ:Sg}{Δ:SE}{A:OS}
theorem s_7{α:Type}{l:List α}{j:Nat}{x:α}(h:l[j]? =some x):l.set j x=l:=by
 apply List.ext_getElem?
 intro i
 by_cases e:j=i
 ·subst e
  have hlt:j < l.length:=(List.getElem?_eq_some_iff.mp h).1
  rw [List.getElem?_set_self hlt,h]
 ·rw [List.getElem?_set_ne e]
theorem Ev.give3(E:Ev K H0 G0 G H σ Δ A){j:Nat}{z:Sl}{t:Tn}(e:Δ[j]? =some z)(zo:z.own=some t):Same G (l_0 G H (A j))∧Ev K H0 G0 (l_0 G H (A j)) H σ (Δ.set j (.sh t.d)) (setA A j fun _=>False):=by
   obtain⟨v,s1,t⟩:=E.ow j z t e zo
   have sg:Same G (l_0 G H (A j)):=fun b o q=>by
    unfold l_0
    split
    ·rename_i hb;rw [(E.out j b hb).1] at q;cases q
    ·exact q
   have gh:Same (l_0 G H (A j)) H:=fun b o q=>by
    unfold l_0 at q
    split at q
    ·exact q
    ·exact E.st.gh b o q
   refine⟨sg,⟨E.st.hh,gh,E.st.gg.trans sg,fun b h1 h2=> ?_⟩,by rw [List.length_set];exact E.len,fun i d' e'=> ?_,fun i z' d' e' zo'=> ?_,fun i b hb=> ?_,fun i i' b h1 h2=> ?_,fun i d' e'=> ?_,fun i d' e'=> ?_⟩
   ·unfold l_0
    split
    ·rename_i hb;exact absurd (E.out j b hb).2.1 h2
    ·exact E.st.nw b h1 h2
   ·rcases g_5 e' with⟨rfl,q⟩|⟨n,q⟩
    ·cases q
     refine⟨v,s1,t.has sg fun b o hb q=> ?_⟩
     unfold l_0
     rw [if_pos hb]
     exact q
    ·obtain⟨v',e1,r⟩:=E.sh i d' q
     exact⟨v',e1,r.mono sg⟩
   ·rcases g_5 e' with⟨rfl,q⟩|⟨n,q⟩
    ·subst q;cases zo'
    ·obtain⟨v',e1,t'⟩:=E.ow i z' d' q zo'
     rw [g_8 (Ne.symm n)]
     exact⟨v',e1,t'.mono sg (fun b o _ q=>q) fun _ q=>q⟩
   ·by_cases z:i=j
    ·subst z;rw [g_9] at hb;exact hb.elim
    ·rw [g_8 z] at hb
     obtain⟨k1,k2,k3⟩:=E.out i b hb
     refine⟨?_,k2,k3⟩
     unfold l_0
     rw [if_neg fun q=>z (E.dj i j b hb q)]
     exact k1
   ·by_cases z:i=j
    ·subst z;rw [g_9] at h1;exact h1.elim
    ·by_cases z':i'=j
     ·subst z';rw [g_9] at h2;exact h2.elim
     ·rw [g_8 z] at h1
      rw [g_8 z'] at h2
      exact E.dj i i' b h1 h2
   ·rcases g_5 e' with⟨rfl,q⟩|⟨n,q⟩
    ·cases q
    ·exact E.lk i d' q
   ·rcases g_5 e' with⟨rfl,q⟩|⟨n,q⟩
    ·cases q
    ·exact E.lt i d' q
theorem Ev.give2(E:Ev K H0 G0 G H σ Δ A){j:Nat}{z:Sl}{t:Tn}(e:Δ[j]? =some z)(zo:z.own=some t):∃G' A',Same G G'∧Ev K H0 G0 G' H σ (Δ.set j (.sh t.d)) A':=⟨_,_,E.give3 e zo⟩
theorem Ev.give1(E:Ev K H0 G0 G H σ Δ A)(j:Nat):∃G' A',Same G G'∧Ev K H0 G0 G' H σ (L3.give1 Δ j) A':=by
 unfold L3.give1
 cases e:Δ[j]? with
 |none=>exact⟨G,A,Same.refl _,E⟩
 |some s=>
  cases s with
  |no=>exact⟨G,A,Same.refl _,by show Ev K H0 G0 G H σ (Δ.set j .no) A;rw [s_7 e];exact E⟩
  |sh d=>exact⟨G,A,Same.refl _,by show Ev K H0 G0 G H σ (Δ.set j (.sh d)) A;rw [s_7 e];exact E⟩
  |ow d=>
   have:=E.give2 e (t:=Tn.of d) rfl
   rw [Tn.of_d] at this
   exact this
  |tr t=>exact E.give2 e rfl
  |lk d=>exact⟨G,A,Same.refl _,by show Ev K H0 G0 G H σ (Δ.set j (.lk d)) A;rw [s_7 e];exact E⟩
  |lt t=>exact⟨G,A,Same.refl _,by show Ev K H0 G0 G H σ (Δ.set j (.lt t)) A;rw [s_7 e];exact E⟩
theorem Ev.gsome:∀(js:List Nat) {G:Hp} {Δ:SE} {A:OS},Ev K H0 G0 G H σ Δ A→∃G' A',Same G G'∧Ev K H0 G0 G' H σ (L3.gsome js Δ) A'
 | [],G,Δ,A,E=>⟨G,A,Same.refl _,E⟩
 |j::js,G,Δ,A,E=>by
  obtain⟨G1,A1,s1,E1⟩:=E.give1 j
  obtain⟨G2,A2,s2,E2⟩:=Ev.gsome js E1
  exact⟨G2,A2,s1.trans s2,E2⟩
end
def Fin(K:Frag)(EX:EXS)(H0:HB)(G0 G1:Hp)(D:Ends):Fl→Prop
 | .nx Δ=>∀σ G H O,Ev K H0 G0 G H σ Δ O→Same G1 G→D.nx σ H
 | .bk Δ=>∀σ G H O,Ev K H0 G0 G H σ Δ O→Same G1 G→D.bk σ H
 | .ct Δ=>∀σ G H O,Ev K H0 G0 G H σ Δ O→Same G1 G→D.ct σ H
 | .rt w=>WP K G0 H0.h w D.rt
 | .ex x Δ=>∀σ G H O,Ev K H0 G0 G H σ Δ O→Same G1 G→(EX σ).p x G H
 | .no=>False
theorem Fin.mono{EX:EXS}{H0:HB}{G0 G1 G2:Hp}{D:Ends}{r:Fl}(s:Same G1 G2)(h:Fin K EX H0 G0 G1 D r):Fin K EX H0 G0 G2 D r:=by
 cases r with
 |nx Δ=>exact fun σ G H O E q=>h σ G H O E (s.trans q)
 |bk Δ=>exact fun σ G H O E q=>h σ G H O E (s.trans q)
 |ct Δ=>exact fun σ G H O E q=>h σ G H O E (s.trans q)
 |rt w=>exact h
 |ex x Δ=>exact fun σ G H O E q=>h σ G H O E (s.trans q)
 |no=>exact h
def tS(K:Frag)(EX:EXS)(g:FS):TS:=fun D σ H=>∃H0 G0 G Δ O,Ev K H0 G0 G H σ Δ O∧Fin K EX H0 G0 G D (g Δ)
abbrev SD(X:Cx)(EX:EXS)(st:Stmt)(g:FS):Prop:=PS X st (tS X.K EX g)
abbrev BD(X:Cx)(EX:EXS)(st:List Stmt)(g:FS):Prop:=PSs X st (tS X.K EX g)
section
variable{X:Cx}{EX:EXS}{st:Stmt}{sts:List Stmt}{g h:FS}{pos:Pos}{e:Expr}{f:FE}{p:FT}
def sNil:FS:=fun Δ=> .nx Δ
def sSeq(g h:FS):FS:=fun Δ=>match g Δ with
 | .nx Δ'=>h Δ'
 |r=>r
theorem d_3:BD X EX [] sNil:=PSs.imp ce_7 fun D σ H ⟨H0,G0,G,Δ,O,E,q⟩=>q σ G H O E (Same.refl _)
theorem a_7(h1:SD X EX st g):BD X EX [st] g:=aj_1 h1
theorem a_3(h1:SD X EX st g)(h2:BD X EX sts h):BD X EX (st::sts) (sSeq g h):=
 PSs.imp (bv_0 h1 h2) fun D σ H ⟨H0,G0,G,Δ,O,E,q⟩=>by
  refine⟨H0,G0,G,Δ,O,E, ?_⟩
  unfold sSeq at q
  cases e:g Δ with
  |nx Δ'=>rw [e] at q;exact fun σ' G' H' O' E' sm=>⟨H0,G0,G',Δ',O',E',Fin.mono sm q⟩
  |bk Δ'=>rw [e] at q;exact q
  |ct Δ'=>rw [e] at q;exact q
  |rt w=>rw [e] at q;exact q
  |ex x Δ'=>rw [e] at q;exact q
  |no=>rw [e] at q;exact q
def exG(js:List Nat)(f:FE)(Δ:SE):Fl:=match f (vsh (gsome js Δ)) with
 | .ex x=> .ex x (gsome js Δ)
 |_=> .no
def exT(js:List Nat)(p:FT)(Δ:SE):Fl:=match p (vsh (gsome js Δ)) with
 | .ex x=> .ex x (gsome js Δ)
 |_=> .no
theorem bc_5{H0:HB}{G0 G G1 H:Hp}{σ:Sg}{Δ:SE}{O:OS}{D:Ends}{js:List Nat}{Q:VK}(E:Ev K H0 G0 G H σ Δ O)(sg:Same G1 G)(q:Fin K EX H0 G0 G1 D (exG js f Δ)):tD K EX f σ H Q:=by
 obtain⟨G',O',s',E'⟩:=E.gsome js
 refine⟨G',vsh (gsome js Δ),E'.st.gh,E'.gsh, ?_⟩
 unfold exG at q
 cases e:f (vsh (gsome js Δ)) with
 |ok w=>rw [e] at q;exact q.elim
 |ex x=>rw [e] at q;exact q σ G' H O' E' (sg.trans s')
 |no=>rw [e] at q;exact q.elim
theorem bx_7{H0:HB}{G0 G G1 H:Hp}{σ:Sg}{Δ:SE}{O:OS}{D:Ends}{js:List Nat}{Q:Bool→Hp→Prop}(E:Ev K H0 G0 G H σ Δ O)(sg:Same G1 G)(q:Fin K EX H0 G0 G1 D (exT js p Δ)):tDt K EX p σ H Q:=by
 obtain⟨G',O',s',E'⟩:=E.gsome js
 refine⟨G',vsh (gsome js Δ),E'.st.gh,E'.gsh, ?_⟩
 unfold exT at q
 cases e:p (vsh (gsome js Δ)) with
 |ok w=>rw [e] at q;exact q.elim
 |ex x=>rw [e] at q;exact q σ G' H O' E' (sg.trans s')
 |no=>rw [e] at q;exact q.elim
def sRet(js:List Nat)(f:FE):FS:=fun Δ=>match f (vall Δ) with
 | .ok w=> .rt w
 | .ex _=>exG js f Δ
 | .no=> .no
theorem b_4(js:List Nat)(he:ED X EX e f):SD X EX (.Return (some e) pos) (sRet js f):=
 PS.imp (bv_1 he) fun D σ H ⟨H0,G0,G,Δ,O,E,q⟩=>by
  unfold sRet at q
  cases e1:f (vall Δ) with
  |ok w=>
   rw [e1] at q
   exact⟨allG G H O,vall Δ,E.aH,E.gall,by rw [e1];exact WP.mono E.aStep q⟩
  |ex x=>rw [e1] at q;exact bc_5 E (Same.refl _) q
  |no=>rw [e1] at q;exact q.elim
def sRetV(i:Nat):FS:=fun Δ=>match Δ[i]? with
 |some (.sh d)=> .rt (.sh d)
 |some (.ow d)=> .rt (.ow d)
 |some (.tr t)=> .rt (.tr t)
 |_=> .no
theorem ac_0(i:Nat){x:Str}{pos pos':Pos}(hN:X.N[i]? =some x:=by rfl)(hv:Vis X.env.scope x:=by first|exact Or.inl rfl|exact Or.inr (Or.inl rfl)|exact Or.inr (Or.inr rfl))(hd:(x ==("__debug__" :Str))=false:=by decide)
  (hcd:(x ==("__classdict__" :Str))=false:=by decide):SD X EX (.Return (some (.Name x pos)) pos') (sRetV i):=
 PS.imp (bv_1 (m_9 hN hv hd hcd)) fun D σ H ⟨H0,G0,G,Δ,O,E,q⟩=>by
  unfold sRetV at q
  split at q
  ·rename_i d e
   obtain⟨v,e1,r⟩:=E.sh i d e
   exact⟨v,e1,(WP.mono (w:= .sh d) (Q:=D.rt) E.st q).use E.st.gh r⟩
  ·rename_i d e
   obtain⟨v,e1,t⟩:=E.ow i _ _ e rfl
   exact⟨v,e1,q v (O i) G H E.st (fun a ha=>let⟨h1,h2,h3⟩:=E.out i a ha;⟨h2,h1,h3⟩) t⟩
  ·rename_i d e
   obtain⟨v,e1,t⟩:=E.ow i _ _ e rfl
   exact⟨v,e1,q v (O i) G H E.st (fun a ha=>let⟨h1,h2,h3⟩:=E.out i a ha;⟨h2,h1,h3⟩) t⟩
  ·exact q.elim
def sPut(i:Nat)(Δ:SE):R W→Fl
 | .ok (.sh d)=> .nx (Δ.set i (.sh d))
 | .ok (.ow d)=> .nx (Δ.set i (.ow d))
 | .ok (.tr t)=> .nx (Δ.set i (.tr t))
 | .ex x=> .ex x Δ
 | .no=> .no
def sSet(i:Nat)(js:List Nat)(f:FE):FS:=fun Δ=>match f (vsh Δ) with
 | .ok (.sh d)=> .nx (Δ.set i (.sh d))
 | .ok (.ow d)=> .nx (Δ.set i (.ow d))
 | .ok (.tr t)=> .nx (Δ.set i (.tr t))
 | .ex x=> .ex x Δ
 | .no=>match f (vall Δ) with
  | .ex _=>sPut i (gsome js Δ) (f (vsh (gsome js Δ)))
  | .no=> .no
  | .ok w=>if flatD w.d=true then .nx (Δ.set i (.sh w.d)) else sPut i (gsome js Δ) (f (vsh (gsome js Δ)))
theorem aj_4{H0:HB}{G0 G G1 H:Hp}{σ:Sg}{Δ:SE}{O:OS}{D:Ends}{i:Nat}(E:Ev K H0 G0 G H σ Δ O)(sg:Same G1 G)
  (q:Fin K EX H0 G0 G1 D (sPut i Δ (f (vsh Δ)))):tAsg (tD K EX f) (bm_2 i) D σ H:=by
 refine⟨G,vsh Δ,E.st.gh,E.gsh, ?_⟩
 unfold sPut at q
 cases e1:f (vsh Δ) with
 |ok w=>
  rw [e1] at q
  cases w with
  |sh d=>exact fun v G' H' st r=>q _ G' H' O ((E.grow st).put r) (sg.trans st.gg)
  |ow d=>
   intro v S G' H' st fr t
   exact q _ G' H' _ ((E.grow st).putO (fun a ha=>⟨E.st.hh.free (fr a ha).1,(fr a ha).2⟩) rfl (fun _ z=>by cases z) t fun j a hj hs=>(E.out j a hj).2.2 (fr a hs).1) (sg.trans st.gg)
  |tr d=>
   intro v S G' H' st fr t
   exact q _ G' H' _ ((E.grow st).putO (fun a ha=>⟨E.st.hh.free (fr a ha).1,(fr a ha).2⟩) rfl (fun _ z=>by cases z) t fun j a hj hs=>(E.out j a hj).2.2 (fr a hs).1) (sg.trans st.gg)
 |ex x=>rw [e1] at q;exact q σ G H O E sg
 |no=>rw [e1] at q;exact q
theorem bc_6{D:Ends}{σ:Sg}{i:Nat}{js:List Nat}(q:tS K EX (sSet i js f) D σ H):tAsg (tD K EX f) (bm_2 i) D σ H:=by
 obtain⟨H0,G0,G,Δ,O,E,q⟩:=q
 unfold sSet at q
 cases e1:f (vsh Δ) with
 |ok w=>
  rw [e1] at q
  refine aj_4 E (Same.refl _) ?_
  unfold sPut
  rw [e1]
  cases w <;> exact q
 |ex x=>
  rw [e1] at q
  refine aj_4 E (Same.refl _) ?_
  unfold sPut
  rw [e1]
  exact q
 |no=>
  rw [e1] at q
  cases e2:f (vall Δ) with
  |ok w=>
   simp only [e2] at q
   split at q
   ·rename_i fl
    refine⟨allG G H O,vall Δ,E.aH,E.gall, ?_⟩
    rw [e2]
    exact WP.intro fun v G' H' st r=>q _ G H' O ((E.keep st.hh).put (r.ofFl fl)) (Same.refl _)
   ·obtain⟨G',O',sg,E'⟩:=E.gsome js
    exact aj_4 E' sg q
  |ex x=>
   simp only [e2] at q
   obtain⟨G',O',sg,E'⟩:=E.gsome js
   exact aj_4 E' sg q
  |no=>simp only [e2] at q;exact q.elim
theorem b_1{i:Nat}(js:List Nat){x:Str}{pos':Pos}(he:ED X EX e f)(hN:X.N.Nodup)(hi:X.N[i]? =some x:=by rfl)(hx:Loc X.env.scope x:=by first|exact Or.inl rfl|exact Or.inr rfl)(hs:swapsWith e (some (.Name x pos')) pos.line X.env=pure false:=by rfl)
  (hf:X.fn x=true∨X.env.scope.names.lookup x=some .local:=by first|exact .inl rfl|exact .inr rfl|assumption):SD X EX (.Assign [.Name x pos'] e pos) (sSet i js f):=
 PS.imp (bv_3 hN hi hx he hs hf) fun D σ H q=>bc_6 q
def sExpr(js:List Nat)(f:FE):FS:=fun Δ=>match f (vall Δ) with
 | .ok _=> .nx Δ
 | .ex _=>exG js f Δ
 | .no=> .no
theorem aw_2(js:List Nat)(he:ED X EX e f)(hs:swapsWith e none pos.line X.env=pure false:=by rfl):SD X EX (.Expr e pos) (sExpr js f):=
 PS.imp (aj_2 he hs) fun D σ H ⟨H0,G0,G,Δ,O,E,q⟩=>by
  unfold sExpr at q
  cases e1:f (vall Δ) with
  |ok w=>
   rw [e1] at q
   exact⟨allG G H O,vall Δ,E.aH,E.gall,by rw [e1];exact WP.intro fun v G' H' st r=>q σ G H' O (E.keep st.hh) (Same.refl _)⟩
  |ex x=>rw [e1] at q;exact bc_5 E (Same.refl _) q
  |no=>rw [e1] at q;exact q.elim
def sIf(js:List Nat)(p:FT)(g h:FS):FS:=fun Δ=>match p (vall Δ) with
 | .ok b=>if b=true then g Δ else h Δ
 | .ex _=>exT js p Δ
 | .no=> .no
theorem at_0{H0:HB}{G0 G H:Hp}{σ:Sg}{Δ:SE}{O:OS}{D:Ends}{k:Bool→Fl}{P:Bool→Hp→Prop}{js:List Nat}(E:Ev K H0 G0 G H σ Δ O)
  {G1:Hp} (sg:Same G1 G) (q:Fin K EX H0 G0 G1 D (match p (vall Δ) with| .ok b=>k b| .ex _=>exT js p Δ| .no=> .no)) (i:∀b H',p (vall Δ)= .ok b→Ev K H0 G0 G H' σ Δ O→Fin K EX H0 G0 G1 D (k b)→P b H'):tDt K EX p σ H P:=by
 cases e1:p (vall Δ) with
 |ok b=>rw [e1] at q;exact⟨allG G H O,vall Δ,E.aH,E.gall,by rw [e1];exact fun G' H' st=>i b H' e1 (E.keep st.hh) q⟩
 |ex x=>rw [e1] at q;exact bx_7 E sg q
 |no=>rw [e1] at q;exact q.elim
theorem f_5(js:List Nat){c:Expr}{as bs:List Stmt}(hc:TD X EX c p)(ha:BD X EX as g)(hb:BD X EX bs h):SD X EX (.If c as bs pos) (sIf js p g h):=
 PS.imp (cu_7 hc ha hb) fun D σ H ⟨H0,G0,G,Δ,O,E,q⟩=>at_0 (k:=fun b=>if b=true then g Δ else h Δ) E (Same.refl _) q fun b H' _ E' q'=>by
  cases b with
  |true=>rw [if_pos rfl];exact⟨H0,G0,G,Δ,O,E',q'⟩
  |false=>rw [if_neg Bool.false_ne_true];exact⟨H0,G0,G,Δ,O,E',q'⟩
def f_1(js:List Nat)(p:FT)(g:FS):Nat→FS
 |0=>fun _=> .no
 |n + 1=>fun Δ=>match p (vall Δ) with
  | .ok b=>if b=true then(match g Δ with
    | .nx Δ'=>f_1 js p g n Δ'
    | .ct Δ'=>f_1 js p g n Δ'
    | .bk Δ'=> .nx Δ'
    |r=>r) else .nx Δ
  | .ex _=>exT js p Δ
  | .no=> .no
theorem ac_1(js:List Nat)(n:Nat){c:Expr}{body:List Stmt}(hp:PassesOwn (model X.prog X.w) X.A X.env X.xe)(hc:TD X EX c p)(hb:BD X EX body g):SD X EX (.While c body [] pos) (f_1 js p g n):=
 PS.imp (bv_4 hp hc hb) fun D σ H ⟨H0,G0,G1,Δ,O,E,q⟩=>by
  refine⟨fun m σ H=>∃G Δ O,Ev X.K H0 G0 G H σ Δ O∧Same G1 G∧Fin X.K EX H0 G0 G1 D (f_1 js p g m Δ),⟨n,G1,Δ,O,E,Same.refl _,q⟩, ?_⟩
  rintro m σ H ⟨G,Δ,O,E,sg,q⟩
  cases m with
  |zero=>exact False.elim q
  |succ m=>
   refine at_0 (k:=fun b=>if b=true then(match g Δ with| .nx Δ'=>f_1 js p g m Δ'| .ct Δ'=>f_1 js p g m Δ'| .bk Δ'=> .nx Δ'|r=>r) else .nx Δ) E sg q fun b H' _ E' q'=> ?_
   cases b with
   |false=>rw [if_neg Bool.false_ne_true];exact q' σ G H' O E' sg
   |true=>
    rw [if_pos rfl]
    rw [if_pos rfl] at q'
    refine⟨fun σ' H'=>∃G Δ O,Ev X.K H0 G0 G H' σ' Δ O∧Same G1 G∧Fin X.K EX H0 G0 G1 D (f_1 js p g m Δ),fun σ' H' w=>⟨m,Nat.lt_succ_self _,w⟩,H0,G0,G,Δ,O,E', ?_⟩
    cases e1:g Δ with
    |nx Δ'=>rw [e1] at q';exact fun σ' G' H' O' E2 s2=>⟨G',Δ',O',E2,sg.trans s2,q'⟩
    |ct Δ'=>rw [e1] at q';exact fun σ' G' H' O' E2 s2=>⟨G',Δ',O',E2,sg.trans s2,q'⟩
    |bk Δ'=>rw [e1] at q';exact Fin.mono (r:= .nx Δ') sg q'
    |rt w=>rw [e1] at q';exact q'
    |ex x Δ'=>rw [e1] at q';exact Fin.mono (r:= .ex x Δ') sg q'
    |no=>rw [e1] at q';exact q'
end
def start3(n:Nat)(ds:List D):SE:=ds.map Sl.sh ++ List.replicate (n - ds.length) .no
def bodyD(n:Nat)(g:FS)(ds:List D):R W:=match g (start3 n ds) with
 | .nx _=> .ok (.sh .non)
 | .rt w=> .ok w
 | .ex x _=> .ex x
 |_=> .no
theorem bx_8{G H:Hp}{ds:List D}{N:List Str}(g:Same G H)(r:HasL K G vs ds):Ev K ⟨H,fun _=>0⟩ G G H (h_7 N vs) (start3 N.length ds) (fun _ _=>False):=by
 refine⟨Step.refl g, ?_,fun i d e=> ?_,fun i z d e zo=> ?_,fun _ _ ha=>ha.elim,fun _ _ _ ha=>ha.elim,fun i d e=> ?_,fun i d e=> ?_⟩
 ·unfold h_7 start3
  simp only [List.length_append,List.length_map,List.length_replicate,r.length]
 ·unfold start3 at e
  by_cases hi:i < ds.length
  ·rw [List.getElem?_append_left (by rw [List.length_map];exact hi),List.getElem?_map] at e
   cases q:ds[i]? with
   |none=>rw [q] at e;cases e
   |some d'=>
    rw [q] at e
    cases e
    obtain⟨v,e1,h⟩:=r.get q
    refine⟨v, ?_,h⟩
    unfold h_7
    rw [List.getElem?_append_left (by rw [List.length_map,r.length];exact hi),List.getElem?_map,e1]
    rfl
  ·rw [List.getElem?_append_right (by rw [List.length_map];omega),List.getElem?_replicate] at e
   split at e <;> cases e
 ·exfalso
  unfold start3 at e
  by_cases hi:i < ds.length
  ·rw [List.getElem?_append_left (by rw [List.length_map];exact hi),List.getElem?_map] at e
   cases q:ds[i]? with
   |none=>rw [q] at e;cases e
   |some d'=>rw [q] at e;cases e;cases zo
  ·rw [List.getElem?_append_right (by rw [List.length_map];omega),List.getElem?_replicate] at e
   split at e
   ·cases e;cases zo
   ·cases e
 ·exfalso
  unfold start3 at e
  by_cases hi:i < ds.length
  ·rw [List.getElem?_append_left (by rw [List.length_map];exact hi),List.getElem?_map] at e
   cases q:ds[i]? with
   |none=>rw [q] at e;cases e
   |some d'=>rw [q] at e;cases e
  ·rw [List.getElem?_append_right (by rw [List.length_map];omega),List.getElem?_replicate] at e
   split at e <;> cases e
 ·exfalso
  unfold start3 at e
  by_cases hi:i < ds.length
  ·rw [List.getElem?_append_left (by rw [List.length_map];exact hi),List.getElem?_map] at e
   cases q:ds[i]? with
   |none=>rw [q] at e;cases e
   |some d'=>rw [q] at e;cases e
  ·rw [List.getElem?_append_right (by rw [List.length_map];omega),List.getElem?_replicate] at e
   split at e <;> cases e
theorem fn_D{c:Bool}{w:World}{x qual:Str}{st:Stmt}{f:Addr}{N ps:List Str}{k:Nat}{g:FS}(F:Fun K x qual st f fd)(S:FnScope N ps (a_8 st))
  (zj:∀(zn:Value) (A:Around) (outer:List Env) (s:Shared) (H:Hp) (E:XK),RoomC c k (A.deeper (envOfC qual (a_8 st) s.heap.objs.size f zn))→
   BD (cxN c P w K mg base N qual (a_8 st) f zn A outer s H E) (fun _=>EXof K E) (d_7 st) g):FnX P w K mg base c (k + 1) f fd ps (spX K ps.length (bodyD N.length g)):=by
 refine Fun.okX F S (fun vs H Q E h=>h.1) fun zn A outer s H vs Q E hr h=>⟨_,zj zn A outer s H E hr, ?_⟩
 obtain⟨hl,G,ds,g0,r,o⟩:=h
 refine⟨⟨H,fun _=>0⟩,G,G,_,_,bx_8 g0 r, ?_⟩
 unfold bodyD at o
 cases e:g (start3 N.length ds) with
 |nx Δ=>rw [e] at o;exact fun σ G' H' O E' _=>(WP.mono (w:= .sh .non) (Q:=Q) E'.st o).use E'.st.gh .non
 |rt w=>rw [e] at o;exact o
 |ex x Δ=>rw [e] at o;exact fun σ G' H' O E' _=>(EXof K E).mono _ _ _ _ _ E'.st o
 |bk Δ=>rw [e] at o;exact o.elim
 |ct Δ=>rw [e] at o;exact o.elim
 |no=>rw [e] at o;exact o
theorem c_4{c:Bool}{w:World}{x:Str}{st:Stmt}{f:Addr}{ps:List Str}{k:Nat}{Fn:List D→R W}(F:Fun K x x st f fd)(hm:mg x=some (.ref f))(hb:Binds K fd ps [])
  (ok:FnX P w K mg base c k f fd ps (spX K ps.length Fn)):FnD P w K mg base c x k ps Fn:=⟨f,fd,ok,hm,F.kp,hb⟩
def bx_9(x:Str):It:=⟨fun i _=>i < x.cps.size,fun i H v H'=>H'=H∧∃c,x.cps[i]? =some c∧v= .str ⟨#[c]⟩,fun i _=>i=x.cps.size⟩
theorem bj_6{w:World}{tg:Expr}{it:Addr}{n:Nat}{Pv:Nat→Value→Prop}{St:Nat→Heap→Prop}{J:It}
  (W:∀A':Around,A'.handled=none→Walks P w A' it [it] [it] n Pv St)
  (bc:∀i h,St i h→∃o nm vs,h.get? it=some o∧o.cls= .type nm∧o.data= .fields vs∧ ["enumerate", "zip", "dict_itemiterator", "dict_reverseitemiterator", "odict_iterator", "itertools.zip_longest", "itertools.pairwise"].contains nm=false)
  (ck:∀(i:Nat) (h h':Heap),St i h→(∀b∈ [it],∀o,h.get? b=some o→h'.get? b=some o)→St i h') (cf:∀(A:Around) (i:Nat) (s:Shared) (Q E:Value→Shared→Prop),St i s.heap→Q (.ref it) s→wpAny (model P w) A (pyIter (.ref it)) Q E s)
  (hgo:∀i H,J.go i H→i < n) (hst:∀i H,J.stop i H→i=n) (hy:∀i H u,Pv i u→∃x,RelV x u∧J.yld i H x H):Turn P w K tg J [it] it St where
 mem:=by simp
 obj:=fun i h st b hb=>by
  have e:b=it:=by simpa using hb
  subst e
  obtain⟨o,nm,vs,e,c,d,_⟩:=bc i h st
  exact⟨o,e,fun v z=>by rw [d] at z;cases z⟩
 keep:=ck
 item:=by
  intro X hP hw hK hc i zd s σ H E I hf st hg
  subst hP hw hK
  obtain⟨f0,f1,f2,f3,f4,f5⟩:=hf it (by simp)
  refine(W X.A (I.ok.hd hc)).item i s _ _ (hgo i H hg) st fun v h' tk hv st' kk=> ?_
  have I1:Inv X zd σ H {s with heap:=h',toks:=tk}:=I.turned (fun b o hb e=>kk b o (by simpa using hb) e) f0 f1 f3 f4 f5
  obtain⟨x,rx,yx⟩:=hy i H v hv
  obtain⟨o,nm,vs,e,c,d,hn⟩:=bc (i + 1) h' st'
  exact⟨v,rfl,bm_4 (s:={s with heap:=h',toks:=tk}) e c d hn ⟨x,H,I1,rx,yx,st',fun b hb=>(hf b hb).1⟩⟩
 done:=by
  intro X hP hw hK hc i zd s σ H E I hf st hg
  subst hP hw hK
  obtain⟨f0,f1,f2,f3,f4,f5⟩:=hf it (by simp)
  obtain rfl:=hst i H hg
  exact(W X.A (I.ok.hd hc)).done s _ _ st fun h' tk kk=>⟨rfl,I.turned (fun b o hb e=>kk b o (by simpa using hb) e) f0 f1 f3 f4 f5⟩
 self:=cf
def ItD(K:Frag)(G1:Hp)(J:It)(ds:List D):Prop:=∀G H,Same G1 G→Same G H→∀i,
 (∀d,ds[i]? =some d→J.go i H∧∀x H',J.yld i H x H'→∃G',Step G H G' H'∧Has K G' x d)∧(ds.length=i→J.stop i H)
abbrev FI:=DE→R (List D)
def tI(K:Frag)(EX:EXS)(fi:FI):TI:=fun σ H Q=>∃G δ,Same G H∧HasS K G σ δ∧match fi δ with
 | .ok ds=>∀J G' H',Step G H G' H'→ItD K G' J ds→Q J H'
 | .ex x=>(EX σ).p x G H
 | .no=>False
abbrev ID(X:Cx)(EX:EXS)(tg iter:Expr)(fi:FI):Prop:=PI X tg iter (tI X.K EX fi)
theorem PI.imp{tg e:Expr}{t t':TI}(h:PI X tg e t)(i:∀σ H Q,t' σ H Q→t σ H Q):PI X tg e t':=fun zd s σ H Q I q=>h zd s σ H Q I (i σ H Q q)
section
variable{X:Cx}{EX:EXS}{tg e a b:Expr}{f:FE}{fa:FA}{p pos:Pos}
theorem tDa.seqI{G H:Hp}{σ:Sg}{δ:DE}{k:List D→R (List D)}{Q:It→Hp→Prop}{P:List V→Hp→Prop}(g:Same G H)(s:HasS K G σ δ)
  (h:match(fa δ).bind k with| .ok ds=>∀J G' H',Step G H G' H'→ItD K G' J ds→Q J H'| .ex x=>(EX σ).p x G H| .no=>False)
  (i:∀ds vs G' H',Step G H G' H'→HasL K G' vs ds→(match k ds with| .ok ds=>∀J G2 H2,Step G' H' G2 H2→ItD K G2 J ds→Q J H2| .ex x=>(EX σ).p x G' H'| .no=>False)→P vs H'):tDa K EX fa σ H P:=by
 refine⟨G,δ,g,s, ?_⟩
 cases e:fa δ with
 |ok ds=>
  rw [e] at h
  simp only [R.bind_ok] at h
  refine fun vs G' H' st r=>i ds vs G' H' st r ?_
  cases e2:k ds with
  |ok ds'=>rw [e2] at h;exact fun J G2 H2 st2 it=>h J G2 H2 (st.trans st2) it
  |ex x=>rw [e2] at h;exact(EX σ).mono _ _ _ _ _ st h
  |no=>rw [e2] at h;exact h
 |ex x=>rw [e] at h;exact h
 |no=>rw [e] at h;exact h
def e_5(lo:Int)(n:Nat):List D:=(List.range n).map fun(k:Nat)=>D.int (lo + (k:Int))
theorem bs_3{lo:Int}{n i:Nat}{d:D}(h:(e_5 lo n)[i]? =some d):i < n∧d= .int (lo + (i:Int)):=by
 unfold e_5 at h
 rw [List.getElem?_map] at h
 by_cases hi:i < n
 ·rw [List.getElem?_range hi] at h
  cases h
  exact⟨hi,rfl⟩
 ·rw [List.getElem?_eq_none (by rw [List.length_range];omega)] at h
  cases h
theorem s_8(lo:Int)(n:Nat):(e_5 lo n).length=n:=by unfold e_5;rw [List.length_map,List.length_range]
theorem bs_4{G:Hp}(lo:Int)(n:Nat):ItD K G (Itr lo n) (e_5 lo n):=fun G' H _ g i=>by
 refine⟨fun d e=> ?_,fun e=> ?_⟩
 ·obtain⟨hi,rfl⟩:=bs_3 e
  refine⟨hi,fun x H' y=> ?_⟩
  obtain⟨e1,e2⟩:=y
  subst e1 e2
  exact⟨G',Step.refl g, .int _⟩
 ·rw [s_8] at e
  exact Nat.le_of_eq e
def m_7:List D→R (List D)
 | [.int j]=>if j.natAbs < 4611686018427387904 then .ok (e_5 0 j.toNat) else .no
 |_=> .no
def iArgs(k:List D→R (List D))(fa:FA):FI:=fun δ=>(fa δ).bind k
theorem p_3(hm:X.mg "range" =none)(ha:AD X EX [a] fa)(hg:Gl X "range" :=by rfl)(hs:starEach [a] X.env= [(false,eval a X.env)]:=by rfl):ID X EX tg (.Call (.Name "range" p) [a] [] pos) (iArgs m_7 fa):=
 PI.imp (br_0 hg hm ha hs) fun σ H Q ⟨G,δ,g0,s0,o⟩=>tDa.seqI g0 s0 o fun ds vs G' H' st r o'=>by
  cases r with
  |nil=>exact False.elim o'
  |cons h t=>
   cases t with
   |cons _ _=>cases h <;> exact False.elim o'
   |nil=>
    cases h with
    |int j=>
     by_cases hc:j.natAbs < 4611686018427387904
     ·rw [show m_7 [.int j]= .ok (e_5 0 j.toNat) from if_pos hc] at o'
      exact⟨j,rfl,by omega,by omega,o' _ G' H' (Step.refl st.gh) (bs_4 0 j.toNat)⟩
     ·rw [show m_7 [.int j]= .no from if_neg hc] at o'
      exact o'.elim
    |_=>exact False.elim o'
def q_7(x:Str):List D:=x.cps.toList.map fun c=> .str ⟨#[c]⟩
def itemsD:D→R (List D)
 | .lst ds=> .ok ds
 | .tup ds=> .ok ds
 | .str x=> .ok (q_7 x)
 |_=> .no
def iOf(f:FE):FI:=fun δ=>(f δ).bind fun w=>itemsD w.d
def iAny(K:Frag)(tl:TE):TI:=fun σ H Q=>tl σ H fun x H1=>
 (∃a,x= .ref a∧(∃xs,SqL K H1 a xs)∧Q (Itl K a) H1)∨(∃a,x= .ref a∧(∃xs,SqT K H1 a xs)∧Q (Itt K a) H1)∨(∃z,x= .str z∧Q (bx_9 z) H1)
theorem cr_7{l:Expr}{tl:TE}(hl:PE X l tl):PI X tg l (iAny X.K tl):=by
 intro zd s σ H Q I h
 refine thn (hl zd s σ H _ I h) fun v s1 ⟨x,H1,I1,r1,q1⟩=> ?_
 rcases q1 with⟨a,e,⟨xs,hq⟩,q⟩|⟨a,e,⟨xs,hq⟩,q⟩|⟨z,e,q⟩
 ·subst e
  cases r1
  obtain⟨its,rv,p,hz⟩:=I1.list hq
  refine wpAny_pyIter_list p.isList ?_
  refine⟨s1.heap.objs.size, [s1.heap.objs.size],_,_,H1,rfl,I1.kept (t':=s1.toks) fun b o e=>Heap.get?_push_of_some _ e,bq_9 a _,⟨_,Heap.get?_push_size _ rfl,rfl,rfl⟩,fun b hb=> ?_,q⟩
  have e:b=s1.heap.objs.size:=by simpa using hb
  subst e
  exact I1.fpOk (Nat.le_refl _) (I1.hok.fresh (Nat.le_refl _))
 ·subst e
  cases r1
  obtain⟨its,rv,p,hz⟩:=I1.tuple hq
  refine wpAny_pyIter_tuple (show s1.heap.IsTuple a its.toArray from p) ?_
  refine⟨s1.heap.objs.size, [s1.heap.objs.size],_,_,H1,rfl,I1.kept (t':=s1.toks) fun b o e=>Heap.get?_push_of_some _ e,bi_1 a _,⟨_,Heap.get?_push_size _ rfl,rfl,rfl⟩,fun b hb=> ?_,q⟩
  have e:b=s1.heap.objs.size:=by simpa using hb
  subst e
  exact I1.fpOk (Nat.le_refl _) (I1.hok.fresh (Nat.le_refl _))
 ·subst e
  obtain⟨t,rfl⟩:=r1
  have fin:∀(nm:String) (St:Nat→Heap→Prop),(∀i h,St i h↔h.IsStrIter s1.heap.objs.size nm z t i)→(∀A':Around,A'.handled=none→Walks X.prog X.w A' s1.heap.objs.size [s1.heap.objs.size] [s1.heap.objs.size] z.cps.size (SignAt z) St)→
    ["enumerate", "zip", "dict_itemiterator", "dict_reverseitemiterator", "odict_iterator", "itertools.zip_longest", "itertools.pairwise"].contains nm=false→
    (∀(A:Around) (i:Nat) (s:Shared) (Q E:Value→Shared→Prop),s.heap.IsStrIter s1.heap.objs.size nm z t i→Q (.ref s1.heap.objs.size) s→wpAny (model X.prog X.w) A (pyIter (.ref s1.heap.objs.size)) Q E s)→
    PIE X zd σ tg Q (.ref s1.heap.objs.size) {s1 with heap:=s1.heap.push {cls:= .type nm,data:= .fields #[.str z t, .int 0 0]}}:=by
   intro nm St hS W hn hslf
   refine⟨s1.heap.objs.size, [s1.heap.objs.size],St,bx_9 z,H1,rfl,I1.kept (t':=s1.toks) fun b o e=>Heap.get?_push_of_some _ e,
    bj_6 W (fun i h st=> ?_) (fun i h h' st k=> ?_) (fun A i s Q E st h=>hslf A i s Q E ((hS _ _).mp st) h) (fun i H g=>g) (fun i H g=> ?_) (fun i H u hu=> ?_),(hS _ _).mpr ⟨_,Heap.get?_push_size _ rfl,rfl,rfl⟩,fun b hb=> ?_,q⟩
   ·obtain⟨o,ho,hc,hd⟩:=(hS _ _).mp st
    exact⟨o,nm,_,ho,hc,hd,hn⟩
   ·obtain⟨o,ho,r⟩:=(hS _ _).mp st
    exact(hS _ _).mpr ⟨o,k _ (by simp) o ho,r⟩
   ·exact g
   ·obtain⟨c,u',e1,e2⟩:=hu
    subst e2
    exact⟨.str ⟨#[c]⟩,⟨u',rfl⟩,rfl,c,e1,rfl⟩
   ·have e:b=s1.heap.objs.size:=by simpa using hb
    subst e
    exact I1.fpOk (Nat.le_refl _) (I1.hok.fresh (Nat.le_refl _))
  cases ha:z.cps.all (· < 128)
  ·exact wpAny_pyIter_wide ha (fin "str_iterator" _ (fun _ _=>Iff.rfl) (fun A' hA=>Walks.strWide hA _ z t) (by decide) fun A i s Q E st h=>wpAny_pyIter_striter_wide st h)
  ·exact wpAny_pyIter_ascii ha (fin "str_ascii_iterator" _ (fun _ _=>Iff.rfl) (fun A' hA=>Walks.strAscii hA _ z t) (by decide) fun A i s Q E st h=>wpAny_pyIter_striter_ascii st h)
theorem by_0{G:Hp}{a:Addr}{ds:List D}(h:SqL K G a vs)(r:HasL K G vs ds):ItD K G (Itl K a) ds:=fun G' H g1 g i=>by
 refine⟨fun d e=> ?_,fun e=> ?_⟩
 ·obtain⟨v,e1,hv⟩:=r.get e
  refine⟨⟨vs,v,(g1.trans g).seq h,e1⟩,fun x H' y=> ?_⟩
  obtain⟨e2,y⟩:=y
  subst e2
  have e3:=y vs ((g1.trans g).seq h)
  rw [e1] at e3
  cases e3
  exact⟨G',Step.refl g,hv.mono g1⟩
 ·exact⟨vs,(g1.trans g).seq h,by rw [r.length];exact Nat.le_of_eq e⟩
theorem ch_2{G:Hp}{a:Addr}{ds:List D}(h:SqT K G a vs)(r:HasL K G vs ds):ItD K G (Itt K a) ds:=fun G' H g1 g i=>by
 refine⟨fun d e=> ?_,fun e=> ?_⟩
 ·obtain⟨v,e1,hv⟩:=r.get e
  refine⟨⟨vs,v,Same.tupS (g1.trans g) h,e1⟩,fun x H' y=> ?_⟩
  obtain⟨e2,y⟩:=y
  subst e2
  have e3:=y vs (Same.tupS (g1.trans g) h)
  rw [e1] at e3
  cases e3
  exact⟨G',Step.refl g,hv.mono g1⟩
 ·exact⟨vs,Same.tupS (g1.trans g) h,by rw [r.length];exact Nat.le_of_eq e⟩
theorem ch_3{G:Hp}(z:Str):ItD K G (bx_9 z) (q_7 z):=fun G' H g1 g i=>by
 refine⟨fun d e=> ?_,fun e=> ?_⟩
 ·unfold q_7 at e
  rw [List.getElem?_map] at e
  cases q:z.cps.toList[i]? with
  |none=>rw [q] at e;cases e
  |some c=>
   rw [q] at e
   cases e
   have hi:i < z.cps.size:=by
    have:=(List.getElem?_eq_some_iff.mp q).1
    simpa using this
   refine⟨hi,fun x H' y=> ?_⟩
   obtain⟨e2,c',e3,e4⟩:=y
   subst e2 e4
   have:z.cps.toList[i]? =some c':=by simpa using e3
   rw [q] at this
   cases this
   exact⟨G',Step.refl g, .str _⟩
 ·unfold q_7 at e
  rw [List.length_map] at e
  show i=z.cps.size
  simp at e
  omega
theorem q_8(he:ED X EX e f):ID X EX tg e (iOf f):=
 PI.imp (cr_7 he) fun σ H Q ⟨G,δ,g0,s0,o⟩=>by
  refine⟨G,δ,g0,s0, ?_⟩
  unfold iOf at o
  cases e1:f δ with
  |ok w=>
   rw [e1] at o
   simp only [R.bind_ok] at o
   refine WP.intro fun v G' H' st r=> ?_
   revert r o
   cases w.d with
   |lst ds=>
    intro o r
    cases r with
    |lst h r=>exact .inl ⟨_,rfl,⟨_,st.gh.seq h⟩,o _ G' H' st (by_0 h r)⟩
   |tup ds=>
    intro o r
    cases r with
    |tup h r=>exact .inr (.inl ⟨_,rfl,⟨_,Same.tupS st.gh h⟩,o _ G' H' st (ch_2 h r)⟩)
   |str z=>
    intro o r
    cases r
    exact .inr (.inr ⟨z,rfl,o _ G' H' st (ch_3 z)⟩)
   |_=>intro o _;exact False.elim o
  |ex x=>rw [e1] at o;exact o
  |no=>rw [e1] at o;exact o
end
abbrev FG:=D→SE→R SE
def tG(K:Frag)(EX:EXS)(fg:FG):TG:=fun v σ H Q=>∃H0 G0 G Δ O d,Ev K H0 G0 G H σ Δ O∧Has K G v d∧match fg d Δ with
 | .ok Δ'=>∀σ' G' H' O',Ev K H0 G0 G' H' σ' Δ' O'→Same G G'→Q σ' H'
 | .ex _=>False
 | .no=>False
theorem PG.imp{tg:Expr}{t t':TG}(h:PG X tg t)(i:∀v σ H Q,t' v σ H Q→t v σ H Q):PG X tg t':=fun zd s σ H v u Q I r q=>h zd s σ H v u Q I r (i v σ H Q q)
abbrev GD(X:Cx)(EX:EXS)(tg:Expr)(fg:FG):Prop:=PG X tg (tG X.K EX fg)
section
variable{X:Cx}{EX:EXS}{pos:Pos}
def gV(i:Nat):FG:=fun d Δ=> .ok (Δ.set i (.sh d))
theorem x_7{i:Nat}{x:Str}(hN:X.N.Nodup)(hi:X.N[i]? =some x:=by rfl)(hx:Loc X.env.scope x:=by first|exact Or.inl rfl|exact Or.inr rfl)
  (hf:X.fn x=true∨X.env.scope.names.lookup x=some .local:=by first|exact .inl rfl|exact .inr rfl|assumption):GD X EX (.Name x pos) (gV i):=
 PG.imp (x_3 hN hi hx hf) fun v σ H Q ⟨H0,G0,G,Δ,O,d,E,r,q⟩=>q _ G H O (E.put r) (Same.refl _)
def gV2(i j:Nat):FG:=fun d Δ=>match d with
 | .tup [a,b]=> .ok ((Δ.set i (.sh a)).set j (.sh b))
 |_=> .no
theorem by_1{i j k:Nat}{x y:Str}{p1 p2:Pos}(hc:X.calm=true)(hN:X.N.Nodup)(hi:X.N[i]? =some x:=by rfl)(hj:X.N[j]? =some y:=by rfl)(hx:Loc X.env.scope x:=by first|exact Or.inl rfl|exact Or.inr rfl)(hy:Loc X.env.scope y:=by first|exact Or.inl rfl|exact Or.inr rfl)
  (hf:X.fn x=true∨X.env.scope.names.lookup x=some .local:=by first|exact .inl rfl|exact .inr rfl|assumption) (hf2:X.fn y=true∨X.env.scope.names.lookup y=some .local:=by first|exact .inl rfl|exact .inr rfl|assumption)
  (hn:(assignEach [.Name x p1, .Name y p2] X.env).length=2:=by rfl) (hst:(assignEach [.Name x p1, .Name y p2] X.env).findIdx? (·.1)=none:=by rfl)
  (hs:(assignEach [.Name x p1, .Name y p2] X.env).map (·.2)=assign (.Name x p1) X.env::(assignEach [.Name y p2] X.env).map (·.2):=by rfl) (hs2:(assignEach [.Name y p2] X.env).map (·.2)=assign (.Name y p2) X.env::(assignEach [] X.env).map (·.2):=by rfl):
  GD X EX (.Tuple [.Name x p1, .Name y p2] k pos) (gV2 i j):=
 PG.imp (bv_2 hc (ab_0 (x_3 hN hi hx hf) (ab_0 (x_3 hN hj hy hf2) bm_3 hs2) hs) hn hst) fun v σ H Q ⟨H0,G0,G,Δ,O,d,E,r,q⟩=>by
  cases r with
  |tup h r=>
   cases r with
   |nil=>exact False.elim q
   |cons r1 r=>
    cases r with
    |nil=>exact False.elim q
    |cons r2 r=>
     cases r with
     |nil=>exact⟨_,_,rfl,Same.tupS E.st.gh h,rfl,_,_,rfl,_,_,rfl,rfl,q _ G H O ((E.put r1).put r2) (Same.refl _)⟩
     |cons _ _=>exact False.elim q
  |_=>exact False.elim q
def i_2(fg:FG)(g:FS):List D→FS
 | []=>fun Δ=> .nx Δ
 |d::ds=>fun Δ=>match fg d Δ with
  | .ok Δ1=>(match g Δ1 with
   | .nx Δ2=>i_2 fg g ds Δ2
   | .ct Δ2=>i_2 fg g ds Δ2
   | .bk Δ2=> .nx Δ2
   |r=>r)
  | .ex _=> .no
  | .no=> .no
def p_0(js:List Nat)(fi:FI)(fg:FG)(g:FS):FS:=fun Δ=>match fi (vsh Δ) with
 | .ok ds=>i_2 fg g ds Δ
 | .ex x=> .ex x Δ
 | .no=>match fi (vsh (gsome js Δ)) with
  | .ok ds=>i_2 fg g ds (gsome js Δ)
  | .ex x=> .ex x (gsome js Δ)
  | .no=> .no
theorem v_7{α:Type}{l:List α}{i:Nat}(h:i < l.length):∃x,l[i]? =some x∧l.drop i=x::l.drop (i + 1):=⟨l[i],by simp [h],List.drop_eq_getElem_cons h⟩
theorem at_1{fg:FG}{g:FS}{H0:HB}{G0 G1 H1:Hp}{J:It}{ds:List D}{Δ:SE}{O:OS}{σ:Sg}{D:Ends}(E:Ev K H0 G0 G1 H1 σ Δ O)(it:ItD K G1 J ds)(q:Fin K EX H0 G0 G1 D (i_2 fg g ds Δ)):
  ∃W:Nat→Nat→Sg→Hp→Prop,(∃m,W 0 m σ H1)∧∀i m σ H,W i m σ H→
   (J.stop i H∧D.nx σ H)∨(J.go i H∧∃N:Sg→Hp→Prop,(∀σ' H',N σ' H'→∃m',m' < m∧W (i + 1) m' σ' H')∧∀x H',J.yld i H x H'→tG K EX fg x σ H' fun σ2 H2=>tS K EX g {D with nx:=N,ct:=N,bk:=D.nx} σ2 H2):=by
 refine⟨fun i m σ H=>m=ds.length - i∧i≤ds.length∧∃G Δ O,Ev K H0 G0 G H σ Δ O∧Same G1 G∧Fin K EX H0 G0 G1 D (i_2 fg g (ds.drop i) Δ),⟨ds.length,by simp,Nat.zero_le _,G1,Δ,O,E,Same.refl _,q⟩, ?_⟩
 rintro i m σ H ⟨rfl,hi,G,Δ,O,E,sg,q⟩
 obtain⟨i1,i2⟩:=it G H sg E.st.gh i
 by_cases hlt:i < ds.length
 ·obtain⟨d,e1,e2⟩:=v_7 hlt
  obtain⟨go,yl⟩:=i1 d e1
  refine .inr ⟨go,fun σ' H'=>∃G Δ O,Ev K H0 G0 G H' σ' Δ O∧Same G1 G∧Fin K EX H0 G0 G1 D (i_2 fg g (ds.drop (i + 1)) Δ),fun σ' H' w=>⟨ds.length - (i + 1),by omega,rfl,hlt,w⟩,fun x H' y=> ?_⟩
  obtain⟨G',st,hx⟩:=yl x H' y
  rw [e2] at q
  refine⟨H0,G0,G',Δ,O,d,E.grow st,hx, ?_⟩
  have q':Fin K EX H0 G0 G1 D (match fg d Δ with
   | .ok Δ1=>(match g Δ1 with
    | .nx Δ2=>i_2 fg g (ds.drop (i + 1)) Δ2
    | .ct Δ2=>i_2 fg g (ds.drop (i + 1)) Δ2
    | .bk Δ2=> .nx Δ2
    |r=>r)
   | .ex _=> .no
   | .no=> .no):=q
  cases e3:fg d Δ with
  |ok Δ1=>
   rw [e3] at q'
   intro σ2 G2 H2 O2 E2 s2
   have s12:Same G1 G2:=sg.trans (st.gg.trans s2)
   refine⟨H0,G0,G2,Δ1,O2,E2, ?_⟩
   cases e4:g Δ1 with
   |nx Δ2=>simp only [e4] at q';exact fun σ3 G3 H3 O3 E3 s3=>⟨G3,Δ2,O3,E3,s12.trans s3,q'⟩
   |ct Δ2=>simp only [e4] at q';exact fun σ3 G3 H3 O3 E3 s3=>⟨G3,Δ2,O3,E3,s12.trans s3,q'⟩
   |bk Δ2=>simp only [e4] at q';exact fun σ3 G3 H3 O3 E3 s3=>q' σ3 G3 H3 O3 E3 (s12.trans s3)
   |rt w=>simp only [e4] at q';exact q'
   |ex x Δ2=>simp only [e4] at q';exact fun σ3 G3 H3 O3 E3 s3=>q' σ3 G3 H3 O3 E3 (s12.trans s3)
   |no=>simp only [e4] at q';exact q'
  |ex x=>rw [e3] at q';exact q'
  |no=>rw [e3] at q';exact q'
 ·have e:ds.length=i:=by omega
  refine .inl ⟨i2 e, ?_⟩
  rw [List.drop_eq_nil_of_le (by omega)] at q
  exact q σ G H O E sg
theorem v_8{tg iter:Expr}{body:List Stmt}{fi:FI}{fg:FG}{g:FS}(js:List Nat)(hp:PassesOwn (model X.prog X.w) X.A X.env X.xe)(hc:X.calm=true)(hi:ID X EX tg iter fi)(hg:GD X EX tg fg)(hb:BD X EX body g)
  (hs:∀x,foldedSetIterable iter X.env x=pure x:=by intro _;rfl):SD X EX (.For tg iter body [] pos) (p_0 js fi fg g):=
 PS.imp (co_9 hp hc hi hg hb hs) fun D σ H ⟨H0,G0,G,Δ,O,E,q⟩=>by
  unfold p_0 at q
  cases e1:fi (vsh Δ) with
  |ok ds=>
   rw [e1] at q
   refine⟨G,vsh Δ,E.st.gh,E.gsh, ?_⟩
   rw [e1]
   exact fun J G' H' st it=>at_1 (E.grow st) it (Fin.mono st.gg q)
  |ex x=>
   rw [e1] at q
   exact⟨G,vsh Δ,E.st.gh,E.gsh,by rw [e1];exact q σ G H O E (Same.refl _)⟩
  |no=>
   rw [e1] at q
   obtain⟨G1,O1,sg,E1⟩:=E.gsome js
   refine⟨G1,vsh (gsome js Δ),E1.st.gh,E1.gsh, ?_⟩
   cases e2:fi (vsh (gsome js Δ)) with
   |ok ds=>
    simp only [e2] at q
    exact fun J G' H' st it=>at_1 (E1.grow st) it (Fin.mono (sg.trans st.gg) q)
   |ex x=>simp only [e2] at q;exact q σ G1 H O1 E1 sg
   |no=>simp only [e2] at q;exact q
def sApp(i:Nat)(f:FE):FS:=fun Δ=>match Δ[i]? with
 |some (.ow (.lst ds))=>if ds.length < 16777216 then(match f (vsh Δ) with
   | .ok w=> .nx (Δ.set i (.ow (.lst (ds ++ [w.d]))))
   | .ex x=> .ex x Δ
   | .no=>match f (vall Δ) with
    | .ok w=>if flatD w.d=true then .nx (Δ.set i (.ow (.lst (ds ++ [w.d])))) else .no
    |_=> .no) else .no
 |_=> .no
theorem al_8{i:Nat}{x:Str}{e:Expr}{f:FE}{p1 zh zf:Pos}(he:ED X EX e f)(hN:X.N[i]? =some x:=by rfl)(hv:Vis X.env.scope x:=by first|exact Or.inl rfl|exact Or.inr (Or.inl rfl)|exact Or.inr (Or.inr rfl))(hd:(x ==("__debug__" :Str))=false:=by decide)
  (hcd:(x ==("__classdict__" :Str))=false:=by decide) (hsw:swapsWith (.Call (.Attribute (.Name x p1) "append" zh) [e] [] zf) none pos.line X.env=pure false:=by rfl)
  (aa:attributeBase (.Name x p1) "append" X.env (eval (.Name x p1) X.env)=eval (.Name x p1) X.env:=by rfl)
  (ba:((backTo zf (starEach [e] X.env)).all (fun x=> !x.1) && (backToKw zf (keywordEach [] X.env)).all (fun x=>x.1.isSome)
   && decide ([e].length + ([]:List Keyword).length + (if([]:List Keyword).isEmpty then 0 else 1) < 30))=true:=by rfl)
  (af:(zh.endLine ==zf.line)=true:=by rfl) (hs:starEach [e] X.env=(false,eval e X.env)::starEach [] X.env:=by rfl) (ae:(backTo zf (starEach [] X.env)).any (·.1)=false:=by rfl):
  SD X EX (.Expr (.Call (.Attribute (.Name x p1) "append" zh) [e] [] zf) pos) (sApp i f):=
 PS.imp (aj_2 (bw_5 PySem.F.plainAttrs_list PySem.F.slot_list_append PySem.F.type_list_append ae_6 (m_9 hN hv hd hcd) (o_9 he z_8 hs) aa ba af hs ae) hsw) fun D σ H ⟨H0,G0,G,Δ,O,E,q⟩=>by
  unfold sApp at q
  split at q
  ·rename_i ds e1
   split at q
   ·rename_i hz
    obtain⟨v0,s1,t⟩:=E.ow i _ _ e1 rfl
    obtain⟨a,vs,rfl,m,hH,rl⟩:=t.list_of
    ·skip
     refine⟨.ref a,s1, .inl ⟨rfl,_,SqL.of hH⟩, ?_⟩
     have fin:∀{G' H':Hp} {v:V} {d:L3.D},Ev X.K H0 G0 G' H' σ Δ O→Same G G'→H' a=some (.lst vs)→HasL X.K G' vs ds→Has X.K G' v d→Fin X.K EX H0 G0 G D (.nx (Δ.set i (.ow (.lst (ds ++ [d])))))→
       bn_0 (.ref a) [v] H' fun _ H1=>D.nx σ H1:=fun{G' H' v d} E' sg hH' r' hv' q'=>
      ⟨a,vs,v,rfl,rfl,hH',by rw [r'.length,sizeLine_eq];exact hz,q' σ G' _ _ (E'.writeL s1 m (r'.append (.cons hv' .nil))) sg⟩
     cases e2:f (vsh Δ) with
     |ok w=>
      simp only [e2] at q
      refine⟨G,vsh Δ,E.st.gh,E.gsh, ?_⟩
      rw [e2]
      exact WP.intro fun v G' H' st r=>fin (E.grow st) st.gg (st.hh _ _ hH) (rl.mono st.gg) r q
     |ex x=>
      simp only [e2] at q
      exact⟨G,vsh Δ,E.st.gh,E.gsh,by rw [e2];exact q σ G H O E (Same.refl _)⟩
     |no=>
      simp only [e2] at q
      refine⟨allG G H O,vall Δ,E.aH,E.gall, ?_⟩
      cases e3:f (vall Δ) with
      |ok w=>
       simp only [e3] at q
       split at q
       ·rename_i fl
        exact WP.intro fun v G' H' st r=>fin (E.keep st.hh) (Same.refl _) (st.hh _ _ hH) rl (r.ofFl fl) q
       ·exact q.elim
      |ex x=>simp only [e3] at q;exact q.elim
      |no=>simp only [e3] at q;exact q
   ·exact q.elim
  ·exact q.elim
end
def g_6(X:Cx)(scope:Scope)(cl:List (Str×Addr))(N':List Str)(C:Addr)(s0:Shared)(H0:Hp)(fp:List Addr)(pn:List (Addr×Obj)):Cx where
 prog:=X.prog
 w:=X.w
 K:=X.K
 mg:=X.mg
 base:=X.base
 A:=X.A
 N:=N'
 s₀:=s0
 H₀:=H0
 env:=compEnvC scope cl C X.env
 outer:=X.stack
 stack:=X.stack
 ex:=fp
 fn:=fun _=>false
 calm:=X.calm
 pn:=pn
 xe:=fun _ _=>False
abbrev FGc:=D→DE→R DE
def tGc(K:Frag)(EX:EXS)(fg:FGc):TG:=fun v σ H Q=>∃G δ d,Same G H∧HasS K G σ δ∧Has K G v d∧match fg d δ with
 | .ok δ'=>∀σ',HasS K G σ' δ'→HasS K G σ' δ→Q σ' H
 | .ex x=>(EX σ).p x G H
 | .no=>False
abbrev GC(X:Cx)(EX:EXS)(tg:Expr)(fg:FGc):Prop:=PG X tg (tGc X.K EX fg)
def CTs(X:Cx)(EX:EXS)(ifs:List Expr)(p:FT):Prop:=
 ∀(zd:List (Addr×Obj)) (s:Shared) (σ:Sg) (H:Hp) (Q:Bool→Hp→Prop),Inv X zd σ H s→tDt X.K EX p σ H Q→
  wpAny (model X.prog X.w) X.A (forIn ifs true fun c r=>if r=true then do let ok←isTrue c X.env (eval c X.env);pure (ForInStep.yield ok) else pure (ForInStep.yield r)) (TP X zd σ Q) X.xe s
section
variable{X:Cx}{EX:EXS}{pos:Pos}
def gC(i:Nat):FGc:=fun d δ=>match δ[i]? with
 |some none=> .ok (δ.set i (some d))
 |_=> .no
theorem HasS.put{G:Hp}{σ:Sg}{δ:DE}{d:D}(h:HasS K G σ δ)(r:Has K G v d)(i:Nat):HasS K G (σ.set i (some v)) (δ.set i (some d)):=by
 refine⟨by rw [List.length_set,List.length_set];exact h.len,fun j d' e=> ?_⟩
 rcases g_5 e with⟨rfl,q⟩|⟨n,q⟩
 ·cases q
  have hlt:i < δ.length:=by
   by_cases hh:i < δ.length
   ·exact hh
   ·rw [List.getElem?_eq_none (by rw [List.length_set];omega)] at e;cases e
  exact⟨v,by rw [List.getElem?_set_self (by rw [h.len];exact hlt)],r⟩
 ·obtain⟨v',e1,r'⟩:=h.get j d' q
  exact⟨v',by rw [List.getElem?_set_ne n];exact e1,r'⟩
theorem ch_4{i:Nat}{x:Str}(hN:X.N.Nodup)(hi:X.N[i]? =some x:=by rfl)(hx:Loc X.env.scope x:=by first|exact Or.inl rfl|exact Or.inr rfl)
  (hf:X.fn x=true∨X.env.scope.names.lookup x=some .local:=by first|exact .inl rfl|exact .inr rfl|assumption):GC X EX (.Name x pos) (gC i):=
 PG.imp (x_3 hN hi hx hf) fun v σ H Q ⟨G,δ,d,g,s,r,q⟩=>by
  unfold gC at q
  cases e:δ[i]? with
  |none=>rw [e] at q;exact q.elim
  |some o=>
   rw [e] at q
   cases o with
   |some _=>exact q.elim
   |none=>
    refine q _ (s.put r i) ⟨by rw [List.length_set];exact s.len,fun j d' e'=> ?_⟩
    obtain⟨v',e1,r'⟩:=s.get j d' e'
    refine⟨v', ?_,r'⟩
    rw [List.getElem?_set_ne]
    ·exact e1
    ·rintro rfl
     rw [e] at e'
     cases e'
theorem s_1:CTs X EX [] (fun _=> .ok true):=fun zd s σ H Q I ⟨G,δ,g,h,q⟩=>wpAny_tests_nil ⟨H,I,q G H (Step.refl g)⟩
theorem aw_3{c:Expr}{p:FT}(h:TD X EX c p):CTs X EX [c] p:=fun zd s σ H Q I q=>wpAny_tests_one (h zd s σ H Q I q)
def m_8(fg:FGc)(p:FT)(f:FE)(δ:DE):List D→R (List D)
 | []=> .ok []
 |d::ds=>(fg d δ).bind fun δ1=>(p δ1).bind fun b=>if b=true then(f δ1).bind fun w=>(m_8 fg p f δ ds).bind fun rs=> .ok (w.d::rs) else m_8 fg p f δ ds
def R.calm{α:Type}:R α→R α
 | .ok w=> .ok w
 |_=> .no
@[simp] theorem R.calm_ok{α:Type}(a:α):(R.ok a).calm= .ok a:=rfl
@[simp] theorem R.calm_ex{α:Type}(x:Xn):(R.ex x:R α).calm= .no:=rfl
@[simp] theorem R.calm_no{α:Type}:(R.no:R α).calm= .no:=rfl
def c_8(m:Nat)(fi:FI)(fg:FGc)(p:FT)(f:FE):FE:=fun δ=>((fi δ).bind fun ds=>if ds.length≤16777216 then(m_8 fg p f (δ ++ List.replicate m none) ds).bind fun rs=> .ok (.ow (.lst rs)) else .no).calm
theorem R.calm_never{α:Type}{r:R α}{x:Xn}(h:r.calm= .ex x):False:=by
 cases r <;> cases h
theorem bc_7{m:Nat}{fi:FI}{fg:FGc}{p:FT}{f:FE}{δ:DE}{x:Xn}(h:c_8 m fi fg p f δ= .ex x):False:=R.calm_never h
@[reducible] def cr_8(prog:Program)(w:World)(A:Around)(env:Env)(tg elt:Expr)(ifs:List Expr)(it acc:Value)(bad:Value→Shared→Prop)(fin more:Shared→Prop):Option Value→Shared→Prop
 |none=>fin
 |some v=>wpAny (model prog w) A (letOwnedTupleGo tg it v) (fun _=>wpAny (model prog w) A (assign tg env v) (fun _=>
   wpAny (model prog w) A (forIn ifs true fun c r=>if r=true then do let ok←isTrue c env (eval c env);pure (ForInStep.yield ok) else pure (ForInStep.yield r)) (fun ok=>
    if ok=true then wpAny (model prog w) A (eval elt env) (fun x=>wpAny (model prog w) A (call (.builtin "list.append") [acc,x]) (fun _=>more) bad) bad else more) bad) bad) bad
theorem bj_7{prog:Program}{w:World}{A:Around}{R:Result→Shared→Prop}{s:Shared}{elt target iter:Expr}{ifs:List Expr}{scope:Scope}{it acc:Value}{env:Env}(I:Nat→Shared→Prop)
  (turn:∀n s,I n s→wpAny (model prog w) A (pyNext it) (cr_8 prog w A env target elt ifs it acc (notedBy (model prog w) A env fun e=>R (.error e)) (R (.ok .next)) fun s'=>∃m,m < n∧I m s') (notedBy (model prog w) A env fun e=>R (.error e)) s)
  (n:Nat) (h:I n s):codeAny (model prog w) A (.compLoop (.ListComp elt [⟨target,iter,ifs,0⟩] scope pos) 0 it acc env) R s:=by
 refine codeAny_loop rfl I (fun k t hk=>wpAny_noted (env:=env) (m:=compTurn (.ListComp elt [⟨target,iter,ifs,0⟩] scope pos) 0 it acc env) (compTurn_list .. ▸ ?_)) n h
 refine wpAny_bind (wpAny_standAt (wpAny_bind (thn (turn k t hk) ?_)))
 rintro (_|v) t1 g1
 ·exact wpAny_pure g1
 refine wpAny_bind (thn g1 fun _ t2 g2=>wpAny_bind (thn g2 fun _ t3 g3=>wpAny_bind (thn g3 ?_)))
 rintro (_|_) t4 g4
 ·exact wpAny_pure ⟨rfl,g4⟩
 ·exact wpAny_bind (wpAny_bind (thn g4 fun _ t5 g5=>wpAny_bind (thn g5 fun _ t6 g6=>wpAny_pure (wpAny_pure ⟨rfl,g6⟩))))
structure CompN(X:Cx)(scope:Scope)(cl:List (Str×Addr))(N':List Str):Prop where
 clos:closureFor scope X.env=pure cl
 cell:∀y∈scope.names,y.2≠ .cell
 kind:scope.kind= .function
 names:∀y∈scope.names,y.2= .local→scope.names.lookup y.1=some .local
 sub:∀x c,cl.lookup x=some c→X.env.cells.lookup x=some c
 has:∀x,((relabel scope X.env).names.lookup x=some .cell∨(relabel scope X.env).names.lookup x=some .free)→∃c,cl.lookup x=some c
 old:∀(i:Nat) (x:Str),N'[i]? =some x→i < X.N.length→Vis (relabel scope X.env) x→X.N[i]? =some x∧(X.env.scope.names.lookup x=some .cell∨X.env.scope.names.lookup x=some .free)∧(∃c,cl.lookup x=some c)∧((relabel scope X.env).names.lookup x=some .cell∨(relabel scope X.env).names.lookup x=some .free)
def k_6(cells:List (Str×Addr)):List (Str×NameKind)→List (Str×Addr)→List (Str×Addr)
 | [],acc=>acc
 |(x,k)::r,acc=>k_6 cells r (if k= .free then(x,(cells.lookup x).getD 0)::acc else acc)
theorem ap_4{scope:Scope}{env:Env}(h:∀p∈scope.names,p.2= .free→∃c,env.cells.lookup p.1=some c):closureFor scope env=pure (k_6 env.cells scope.names []):=by
 have all:∀(names:List (Str×NameKind)) (acc:List (Str×Addr)),(∀p∈names,p.2= .free→∃c,env.cells.lookup p.1=some c)→
   (forIn names acc fun(x:Str×NameKind) (r:List (Str×Addr))=>if(x.2 == .free)=true then do let a←cellOf env x.1;pure (ForInStep.yield ((x.1,a)::r)) else pure (ForInStep.yield r):Sem (List (Str×Addr)))=pure (k_6 env.cells names acc):=by
  intro names
  induction names with
  |nil=>intro acc _;rfl
  |cons p r ih=>
   intro acc hp
   obtain⟨x,k⟩:=p
   rw [List.forIn_cons]
   by_cases hk:k= .free
   ·subst hk
    obtain⟨c,e⟩:=hp (x, .free) List.mem_cons_self rfl
    have e1:cellOf env x=pure c:=by unfold cellOf;rw [show env.cells.lookup x=some c from e]
    simp only [beq_self_eq_true,if_true,e1,pure_bind]
    rw [ih _ fun q hq=>hp q (List.mem_cons_of_mem _ hq)]
    show _=pure (k_6 env.cells r (if NameKind.free= .free then(x,(env.cells.lookup x).getD 0)::acc else acc))
    rw [if_pos rfl,show env.cells.lookup x=some c from e]
    rfl
   ·have hb:(k ==NameKind.free)=false:=by simpa using hk
    simp only [hb,Bool.false_eq_true,if_false,pure_bind]
    rw [ih _ fun q hq=>hp q (List.mem_cons_of_mem _ hq)]
    show _=pure (k_6 env.cells r (if k= .free then(x,(env.cells.lookup x).getD 0)::acc else acc))
    rw [if_neg hk]
 unfold closureFor
 have:=all scope.names [] h
 simpa using this
theorem bc_8{cells:List (Str×Addr)}{q:Str×Addr}:∀{names:List (Str×NameKind)} {acc:List (Str×Addr)},q∈k_6 cells names acc→q∈acc∨((q.1,NameKind.free)∈names∧q.2=(cells.lookup q.1).getD 0)
 | [],acc,h=> .inl h
 |(x,k)::r,acc,h=>by
  rcases bc_8 (names:=r) h with h|⟨h1,h2⟩
  ·split at h
   ·rename_i hk
    rcases List.mem_cons.mp h with rfl|h
    ·exact .inr ⟨by rw [hk];exact List.mem_cons_self,rfl⟩
    ·exact .inl h
   ·exact .inl h
  ·exact .inr ⟨List.mem_cons_of_mem _ h1,h2⟩
theorem bc_9{cells:List (Str×Addr)}{x:Str}:∀{names:List (Str×NameKind)} {acc:List (Str×Addr)},(acc.lookup x).isSome=true→((k_6 cells names acc).lookup x).isSome=true
 | [],acc,h=>h
 |(y,k)::r,acc,h=>by
  refine bc_9 (names:=r) ?_
  split
  ·rw [List.lookup_cons]
   split
   ·rfl
   ·exact h
  ·exact h
theorem bd_0{cells:List (Str×Addr)}{x:Str}:∀{names:List (Str×NameKind)} {acc:List (Str×Addr)},(x,NameKind.free)∈names→((k_6 cells names acc).lookup x).isSome=true
 |(y,k)::r,acc,h=>by
  rcases List.mem_cons.mp h with h|h
  ·cases h
   refine bc_9 (names:=r) ?_
   rw [if_pos rfl,List.lookup_cons]
   simp
  ·exact bd_0 (names:=r) h
theorem p_7{env:Env}:∀(names:List (Str×NameKind)) (x:Str),
  (names.map fun(n,k)=>if(k ==NameKind.free && env.scope.kind == .function && env.kindOf n ==some .cell) then(n,NameKind.cell) else(n,k)).lookup x=(names.lookup x).map fun k=>if(k ==NameKind.free && env.scope.kind == .function && env.kindOf x ==some .cell)=true then NameKind.cell else k
 | [],x=>rfl
 |(n,k)::r,x=>by
  have ih:=p_7 (env:=env) r x
  show List.lookup x ((if(k ==NameKind.free && env.scope.kind == .function && env.kindOf n ==some .cell)=true then(n,NameKind.cell) else(n,k))::_)=_
  cases hx:x ==n with
  |true=>
   have e:x=n:=eq_of_beq hx
   subst e
   by_cases hc:(k ==NameKind.free && env.scope.kind == .function && env.kindOf x ==some .cell)=true
   ·rw [if_pos hc];simp only [List.lookup_cons,beq_self_eq_true,Option.map_some];rw [if_pos hc]
   ·rw [if_neg hc];simp only [List.lookup_cons,beq_self_eq_true,Option.map_some];rw [if_neg hc]
  |false=>
   by_cases hc:(k ==NameKind.free && env.scope.kind == .function && env.kindOf n ==some .cell)=true
   ·rw [if_pos hc];simp only [List.lookup_cons,hx];exact ih
   ·rw [if_neg hc];simp only [List.lookup_cons,hx];exact ih
def ah_2(inner outer:List (Str×NameKind))(N N':List Str):Bool:=
 (inner.all fun p=>p.2 != .cell && (p.2 != .local || inner.lookup p.1 ==some .local) && (p.2 != .free || (outer.lookup p.1 ==some .cell || outer.lookup p.1 ==some .free))) &&
 (List.range N.length).all fun i=>match N'[i]? with
  |some x=>(match inner.lookup x with
   |some .free=>N[i]? ==some x && (outer.lookup x ==some .cell || outer.lookup x ==some .free)
   |some .local=>false
   |some .cell=>false
   |_=>true)
  |none=>true
theorem al_9{scope:Scope}{N':List Str}(ok:X.Ok)(hk:scope.kind= .function)(hb:ah_2 scope.names X.env.scope.names X.N N'=true):CompN X scope (k_6 X.env.cells scope.names []) N':=by
 unfold ah_2 at hb
 rw [Bool.and_eq_true] at hb
 obtain⟨h1,h2⟩:=hb
 have h1:=List.all_eq_true.mp h1
 have h2:=List.all_eq_true.mp h2
 have fr:∀p∈scope.names,p.2= .free→∃c,X.env.cells.lookup p.1=some c:=fun p hp hf=>by
  have z:=h1 p hp
  simp only [hf,Bool.and_eq_true,Bool.or_eq_true,bne_iff_ne,beq_iff_eq] at z
  exact ok.has p.1 (by
   rcases z.2 with z|z
   ·exact absurd rfl z
   ·exact z)
 have inn:∀x k,scope.names.lookup x=some k→(x,k)∈scope.names:=fun x k e=>PySem.mem_of_lookup e
 have av:∀p∈scope.names,p.2≠ .cell:=fun p hp hc=>by
  have z:=h1 p hp
  rw [hc] at z
  simp at z
 have de:∀x,scope.names.lookup x=some .free→∃c,(k_6 X.env.cells scope.names []).lookup x=some c:=fun x e=>Option.isSome_iff_exists.mp (bd_0 (inn x _ e))
 have fj:∀x,((relabel scope X.env).names.lookup x=some .cell∨(relabel scope X.env).names.lookup x=some .free)→scope.names.lookup x=some .free:=fun x h=>by
  unfold relabel at h
  rw [p_7] at h
  cases e:scope.names.lookup x with
  |none=>rw [e] at h;simp at h
  |some k=>
   rw [e] at h
   have nc:=av (x,k) (inn x k e)
   cases k with
   |free=>rfl
   |cell=>exact absurd rfl nc
   |«local»=>simp at h
   |globalExplicit=>simp at h
   |globalImplicit=>simp at h
 refine⟨ap_4 fr,av,hk,fun y hy hl=> ?_,fun x c e=> ?_,fun x h=>de x (fj x h),fun i x e hi hv=> ?_⟩
 ·have z:=h1 y hy
  simp only [hl,Bool.and_eq_true,Bool.or_eq_true,bne_iff_ne,beq_iff_eq] at z
  rcases z.1.2 with z|z
  ·exact absurd rfl z
  ·exact z
 ·rcases bc_8 (PySem.mem_of_lookup e) with z|⟨z1,z2⟩
  ·exact absurd z (by simp)
  ·obtain⟨c',e'⟩:=fr (x, .free) z1 rfl
   have z2:c=(X.env.cells.lookup x).getD 0:=z2
   have e':X.env.cells.lookup x=some c':=e'
   rw [e'] at z2⊢
   cases z2
   rfl
 ·have z:=h2 i (List.mem_range.mpr hi)
  rw [e] at z
  dsimp only at z
  have look:scope.names.lookup x=some .free∧(((relabel scope X.env).names.lookup x=some .cell∨(relabel scope X.env).names.lookup x=some .free)):=by
   unfold Vis relabel at hv
   unfold relabel
   rw [p_7] at hv⊢
   cases q:scope.names.lookup x with
   |none=>rw [q] at hv;simp at hv
   |some k=>
    rw [q] at hv z
    cases k with
    |free=>
     refine⟨rfl, ?_⟩
     by_cases hc:(X.env.scope.kind == .function && X.env.kindOf x ==some .cell)=true
     ·left;simp [Bool.and_assoc,hc]
     ·right;simp [Bool.and_assoc,hc]
    |cell=>simp at z
    |«local»=>simp at z
    |globalExplicit=>simp at hv
    |globalImplicit=>simp at hv
  rw [look.1] at z
  simp only [Bool.and_eq_true,Bool.or_eq_true,beq_iff_eq] at z
  exact⟨z.1,z.2,de x look.1,look.2⟩
theorem bs_5{elt iter tg:Expr}{ifs:List Expr}{scope:Scope}{N':List Str}{fi:FI}{fg:FGc}{p:FT}{f:FE}{m:Nat}(hx0:∀e s,¬X.xe e s)(hc:X.calm=true)(hk:scope.kind= .function)(hb:ah_2 scope.names X.env.scope.names X.N N'=true)
  (hm:N'.length=X.N.length + m)
  (hin:∀C s0 H0 fp pn,GC (g_6 X scope (k_6 X.env.cells scope.names []) N' C s0 H0 fp pn) l_5 tg fg∧CTs (g_6 X scope (k_6 X.env.cells scope.names []) N' C s0 H0 fp pn) l_5 ifs p∧ED (g_6 X scope (k_6 X.env.cells scope.names []) N' C s0 H0 fp pn) l_5 elt f)
  {zd:List (Addr×Obj)} {s:Shared} {σ:Sg} {δ:DE} (I:Inv X zd σ H s) {Z:Hp→Hp→Prop} (hZ:∀G2 H2,Z G2 H2→Same G2 H2∧HasS X.K G2 σ δ)
  (hit:wpAny (model X.prog X.w) X.A (eval iter X.env) (fun xv s₁=>wpAny (model X.prog X.w) X.A (pyIter xv) (fun itv s₂=>∃(it:Addr) (fp:List Addr) (tn:Nat→Heap→Prop) (J:It) (H2:Hp) (ds:List D) (G2:Hp),itv= .ref it∧Inv X zd σ H2 s₂∧Turn X.prog X.w X.K tg J fp it tn∧tn 0 s₂.heap∧(∀b∈fp,FpOk X zd H2 b)∧fi δ= .ok ds∧Z G2 H2∧ItD X.K G2 J ds) X.xe s₁) X.xe s)
  {RR:Value→Addr→Result→Shared→Prop}
  (o:match c_8 m fi fg p f δ with| .ok _=>True| .ex x=>False| .no=>False)
  (hRR:∀(Da C:Addr) (s1:Shared) (G2 H2 G' H':Hp) (vs:List V) (rs:List D),c_8 m fi fg p f δ= .ok (.ow (.lst rs))→Inv X zd σ H' s1→(∃m,s1.heap.Ns C m)→FpOk X zd H' C→Z G2 H2→Step G2 H2 G' H'→H2 Da=none→H' Da=some (.lst vs)→G' Da=none→HasL X.K G' vs rs→RR (.ref Da) C (.ok .next) s1):
  wpAny (model X.prog X.w) X.A (eval iter X.env) (fun x s₁=>wpAny (model X.prog X.w) X.A (pyIter x) (fun it s₂=>wpAny (model X.prog X.w) X.A (newList []) (fun acc s₃=>
   wpAny (model X.prog X.w) X.A (newFunctionEnv scope X.env.globals (k_6 X.env.cells scope.names []) [] X.env.qual none .none (some X.env)) (fun cenv s₄=>
    codeAny (model X.prog X.w) X.A (.compStart (.ListComp elt [⟨tg,iter,ifs,0⟩] scope pos) 0 it acc {cenv with scope:=relabel scope X.env}) (RR acc cenv.locals) s₄) X.xe s₃) X.xe s₂) X.xe s₁) X.xe s:=by
 have n:=al_9 I.ok hk hb
 generalize hcle:k_6 X.env.cells scope.names []=cl at n hin⊢
 have bu:∀ds,fi δ= .ok ds→ds.length≤16777216∧(match m_8 fg p f (δ ++ List.replicate m none) ds with| .ok rs=>c_8 m fi fg p f δ= .ok (.ow (.lst rs))| .ex x=>False| .no=>False):=fun ds e=>by
  unfold c_8 at o⊢
  simp only [e,R.bind_ok] at o⊢
  by_cases hz:ds.length≤16777216
  ·refine⟨hz, ?_⟩
   rw [if_pos hz] at o⊢
   cases e2:m_8 fg p f (δ ++ List.replicate m none) ds with
   |ok rs=>rfl
   |ex x=>rw [e2] at o;exact o
   |no=>rw [e2] at o;exact o
  ·rw [if_neg hz] at o;exact o.elim
 
 refine wpAny_mono hit (fun xv s₁ h₁=>wpAny_mono h₁ (fun itv s₂ h₂=> ?_) fun _ _ e=>(hx0 _ _ e).elim) fun _ _ e=>(hx0 _ _ e).elim
 obtain⟨it,fp,tn,J,H2,ds,G2,rfl,I2,T,st2,f2,e2,hz2,itd⟩:=h₂
 obtain⟨sg2,h0⟩:=hZ G2 H2 hz2
 obtain⟨hz,o⟩:=bu ds e2
 
 have hfD:H2 s₂.heap.objs.size=none:=I2.hok.fresh (Nat.le_refl _)
 refine wpAny_newObj_type (wpAny_newFunctionEnv n.cell (by intro y hy;simp at hy) (fun h₁ hns₁ hsb₁=> ?_) n.kind)
 dsimp only at hns₁ hsb₁⊢
 generalize hDa:s₂.heap.objs.size=Da at hfD
 have hDn: @Eq Nat s₂.heap.objs.size Da:=hDa
 have I3:Inv X zd σ (upd H2 Da (.lst [])) {s₂ with heap:=s₂.heap.push {cls:= .type "list",dict:=none,data:= .seq ([]:List Value).toArray}}:=by
  rw [←hDa]
  exact I2.lnew (t':=s₂.toks) .nil (Nat.zero_le _)
 generalize hH3:s₂.heap.push {cls:= .type "list",dict:=none,data:= .seq ([]:List Value).toArray}=hp3 at hns₁ hsb₁ I3⊢
 have hC:hp3.objs.size=Da + 1:=by rw [←hH3,Heap.size_push,hDa]
 generalize hCe:hp3.objs.size=C at hns₁ hsb₁ hC
 have hCn: @Eq Nat hp3.objs.size C:=hCe
 have hC2: @Eq Nat C (Da + 1):=hC
 have dm:∀b o,s₂.heap.get? b=some o→hp3.get? b=some o:=fun b o e=>by rw [←hH3];exact Heap.get?_push_of_some _ e
 have up:∀b o,hp3.get? b=some o→h₁.get? b=some o:=fun b o e=>hsb₁.extBut b o (Nat.ne_of_lt (show @LT.lt Nat _ b C by rw [←hCn];exact Heap.lt_size e)) (Heap.get?_push_of_some _ e)
 
 have fpC:∀b∈fp,b < s₂.heap.objs.size:=fun b hb=>by
  obtain⟨o,e,_⟩:=T.obj _ _ st2 b hb
  exact Heap.lt_size e
 have hcl:∀x c,cl.lookup x=some c→c < hp3.objs.size∧c∉fp∧(upd H2 Da (.lst [])) c=none:=fun x c e=>by
  have e':=n.sub x c e
  obtain⟨v,hv⟩:=I3.cell x c e'
  exact⟨hv.lt,fun z=>(f2 c z).2.2.2.2.1 x c e' rfl,I3.freeC x c e'⟩
 let X':=g_6 X scope cl N' C {s₂ with heap:=hp3} (upd H2 Da (.lst [])) fp (X.pn ++ zd)
 have ok':X'.Ok:=by
  refine⟨I.ok.mod,n.kind,I.ok.glob,I.ok.blt,Nat.le_of_eq hCe,fun x y c h1 h2=>I.ok.inj x y c (n.sub x c h1) (n.sub y c h2),fun x hx=>n.has x hx,fun x c z=> ?_,I.ok.hd,I.ok.frames, .inl rfl,fun b hb=>⟨?_,fun x c e z=> ?_⟩,fun b o e=> ?_, ?_,fun b o e hb=> ?_,fun b hb z=> ?_,I3.stack,I3.stkFree⟩
  ·exact absurd z Bool.false_ne_true
  ·exact Nat.ne_of_lt (Nat.lt_of_lt_of_le (fpC b hb) (show @LE.le Nat _ s₂.heap.objs.size C by omega))
  ·subst z;exact(hcl x c e).2.1 hb
  ·exact I3.bs b o e
  ·exact Nat.le_trans I.ok.bsz I3.sz
  ·rcases(f2 b hb).2.2.2.1 with z|z
   ·exact I.ok.noex b o e z
   ·exact absurd (Heap.lt_size (I.ok.bs b o e).1) (Nat.not_lt_of_le z)
  ·rcases List.mem_cons.mp (I3.stkSub b z) with z|z
   ·exact(f2 b hb).2.1 z
   ·exact(f2 b hb).2.2.1 z
 have lenσ:σ.length=X.N.length:=I.len
 have I4:Inv X' [] (σ ++ List.replicate m none) (upd H2 Da (.lst [])) {s₂ with heap:=h₁,toks:=s₂.toks + ([]:List (Str×Value)).length}:=by
  refine⟨ok',rfl,I2.bare,Un.kept up,⟨_,hns₁,fun i x v e1 e2 e3=> ?_⟩,fun x c e=> ?_, ?_,fun x c e=>(hcl x c e).2.2,fun p hp=> ?_,I3.hok.kept up, ?_⟩
  ·have hi:i < σ.length:=by
    by_cases hh:i < σ.length
    ·exact hh
    ·rw [List.getElem?_append_right (by omega),List.getElem?_replicate] at e2
     split at e2 <;> cases e2
   rw [List.getElem?_append_left hi] at e2
   obtain⟨n1,n2,⟨c,n3⟩,n4⟩:=n.old i x e1 (by omega) e3
   obtain⟨mm,hnm,hl⟩:=I3.loc
   obtain⟨u,r,l⟩:=hl i x v n1 e2 (.inr n2)
   refine⟨u,r, .inr ⟨n4,c,n3, ?_⟩⟩
   have n3':=n.sub x c n3
   rcases l with⟨k1,k2⟩|⟨k1,c',k2,k3⟩
   ·exfalso
    have k1':X.env.scope.names.lookup x=some .local:=k1
    rcases n2 with n2|n2
    ·rw [n2] at k1';cases k1'
    ·rw [n2] at k1';cases k1'
   ·rw [n3'] at k2
    cases k2
    exact k3.keeps up
  ·obtain⟨v,hv⟩:=I3.cell x c (n.sub x c e)
   exact⟨v,hv.keeps up⟩
  ·show upd H2 Da (.lst []) C=none
   exact I3.hok.fresh (by show hp3.objs.size≤C;omega)
  ·have hp':p∈X.pn ++ zd:=by
    have hp2:p∈(X.pn ++ zd) ++ []:=hp
    rwa [List.append_nil] at hp2
   obtain⟨z1,z2,z3,z4,z5⟩:=I3.pin p hp'
   refine⟨up _ _ z1,z2, ?_,fun z=> ?_,z5⟩
   ·exact Nat.ne_of_lt (show @LT.lt Nat _ p.1 C by rw [←hCn];exact Heap.lt_size z1)
   ·rcases List.mem_cons.mp (I3.stkSub p.1 z) with z|z
    ·exact z3 z
    ·exact z4 z
  ·rw [List.length_append,List.length_replicate,lenσ]
   exact hm.symm
 obtain⟨hgc,hct,hel⟩:=hin C {s₂ with heap:=hp3} (upd H2 Da (.lst [])) fp (X.pn ++ zd)
 have hS4:HasS X.K G2 (σ ++ List.replicate m none) (δ ++ List.replicate m none):=by
  refine⟨by rw [List.length_append,List.length_append,List.length_replicate,List.length_replicate,h0.len],fun i d e=> ?_⟩
  by_cases hh:i < δ.length
  ·rw [List.getElem?_append_left hh] at e
   obtain⟨v,e1,r⟩:=h0.get i d e
   exact⟨v,by rw [List.getElem?_append_left (by rw [h0.len];exact hh)];exact e1,r⟩
  ·rw [List.getElem?_append_right (by omega),List.getElem?_replicate] at e
   split at e <;> cases e
 generalize hδ:δ ++ List.replicate m none=δ' at hS4 o
 have stn:tn 0 h₁:=T.keep 0 _ _ st2 fun b hb o e=>up b o (dm b o e)
 have fpn:∀b∈fp,(upd H2 Da (.lst [])) b=none:=fun b hb=>by
  rw [b_0 (Nat.ne_of_lt (show @LT.lt Nat _ b Da by rw [←hDn];exact fpC b hb))]
  exact(f2 b hb).1
 have bt:∀{pl:List (Addr×Obj)} {H':Hp},pl= []→(∀b∈fp,H' b=none)→∀b∈fp,FpOk X' pl H' b:=fun{pl H'} hpl hn b hb=>by
  subst hpl
  refine⟨hn b hb, ?_,fun z=> ?_, .inl hb,fun x c e z=> ?_,fun p hp z=> ?_⟩
  ·exact Nat.ne_of_lt (Nat.lt_of_lt_of_le (fpC b hb) (show @LE.le Nat _ s₂.heap.objs.size C by omega))
  ·rcases List.mem_cons.mp (I3.stkSub b z) with z|z
   ·exact(f2 b hb).2.1 z
   ·exact(f2 b hb).2.2.1 z
  ·subst z;exact(hcl x c e).2.1 hb
  ·have hp':p∈X.pn ++ zd:=by
    have hp2:p∈(X.pn ++ zd) ++ []:=hp
    rwa [List.append_nil] at hp2
   exact(f2 b hb).2.2.2.2.2 p hp' z
 have loop:∀s4:Shared,Inv X' [] (σ ++ List.replicate m none) (upd H2 Da (.lst [])) s4→tn 0 s4.heap→codeAny (model X.prog X.w) X.A (.compLoop (.ListComp elt [⟨tg,iter,ifs,0⟩] scope pos) 0 (.ref it) (.ref Da) (compEnvC scope cl C X.env)) (RR (.ref Da) C) s4:=by
  intro s4 I4 tn4
  refine bj_7 (fun k s'=>∃i σ' H' G' vs rs,k=ds.length - i∧i≤ds.length∧Inv X' [] σ' H' s'∧tn i s'.heap∧(∀b∈fp,H' b=none)∧HasS X.K G' σ' δ'∧Step G2 H2 G' H'∧Same G2 G'∧H' Da=some (.lst vs)∧G' Da=none∧
   HasL X.K G' vs rs∧rs.length≤i∧(match m_8 fg p f δ' (ds.drop i) with| .ok rs2=>c_8 m fi fg p f δ= .ok (.ow (.lst (rs ++ rs2)))| .ex x=>False| .no=>False)) ?_ ds.length
   ⟨0,_,_,G2, [], [],by simp,Nat.zero_le _,I4,tn4,fpn,hS4,Step.own sg2 hfD _,Same.refl _,b_6,sg2.free hfD, .nil,Nat.zero_le _,by simpa using o⟩
  rintro k s' ⟨i,σ',H',G',vs,rs,rfl,hi,I',tni,fn',hS,st,sg,hD,gD,rl,hl,o'⟩
  obtain⟨i1,i2⟩:=itd G' H' sg st.gh i
  by_cases hlt:i < ds.length
  ·obtain⟨d,e1,e2⟩:=v_7 hlt
   obtain⟨go,yl⟩:=i1 d e1
   refine thn (T.item X' rfl rfl rfl hc i [] s' σ' H' _ I' (bt rfl fn') tni go) fun r s1 ⟨u,hr,h1⟩=> ?_
   subst hr
   refine thn h1 fun _ s5 ⟨x,H5,I5,r5,y5,st5,fr5⟩=> ?_
   obtain⟨G5,aj,hx5⟩:=yl x H5 y5
   have I5':=I5.pinned (bt rfl fr5) (T.obj _ _ st5)
   rw [e2] at o'
   have o1:match((fg d δ').bind fun δ1=>(p δ1).bind fun b=>if b=true then(f δ1).bind fun w=>(m_8 fg p f δ' (ds.drop (i + 1))).bind fun rs=> .ok (w.d::rs) else m_8 fg p f δ' (ds.drop (i + 1))) with| .ok rs2=>c_8 m fi fg p f δ= .ok (.ow (.lst (rs ++ rs2)))| .ex x=>False| .no=>False:=o'
   have hS5:HasS X.K G5 σ' δ':=hS.mono aj.gg
   refine wpAny_mono (hgc _ s5 σ' H5 x u (fun σ6 H6=>∃δ1,fg d δ'= .ok δ1∧H6=H5∧HasS X.K G5 σ6 δ1∧HasS X.K G5 σ6 δ') I5' r5 ⟨G5,δ',d,aj.gh,hS5,hx5, ?_⟩) (fun _ s6 ⟨σ6,H6,I6,δ1,e6,eH,hS6,hS6'⟩=> ?_) fun _ _ z=>False.elim z
   ·cases e6:fg d δ' with
    |ok δ1=>exact fun σ6 h6 h6'=>⟨δ1,rfl,rfl,h6,h6'⟩
    |ex x=>rw [e6] at o1;exact o1
    |no=>rw [e6] at o1;exact o1
   subst eH
   rw [e6] at o1
   simp only [R.bind_ok] at o1
   refine wpAny_mono (hct _ s6 σ6 H6 (fun b H7=>∃G7,p δ1= .ok b∧Step G5 H6 G7 H7) I6 ⟨G5,δ1,aj.gh,hS6, ?_⟩) (fun b s7 ⟨H7,I7,G7,e7,stp7⟩=> ?_) fun _ _ z=>False.elim z
   ·cases e7:p δ1 with
    |ok b=>exact fun G7 H7 st7=>⟨G7,rfl,st7⟩
    |ex x=>rw [e7] at o1;exact o1
    |no=>rw [e7] at o1;exact o1
   rw [e7] at o1
   simp only [R.bind_ok] at o1
   
   have gD7:G7 Da=none:=(aj.trans stp7).nw Da gD (by rw [hD];simp)
   have hD7:H7 Da=some (.lst vs):=(aj.trans stp7).hh _ _ hD
   have bp:∀{σ9:Sg} {H9:Hp} {s9:Shared},Inv X' ([] ++ al_0 fp s5.heap) σ9 H9 s9→tn (i + 1) s9.heap∧∀b∈fp,H9 b=none:=fun{σ9 H9 s9} I9=>
    ⟨T.keep _ _ _ st5 fun b hb o e=>(I9.pin (b,o) (List.mem_append_right _ (List.mem_append_right _ (t_9 hb e)))).1,fun b hb=>by
     obtain⟨o,e,d⟩:=T.obj _ _ st5 b hb
     exact(I9.pin (b,o) (List.mem_append_right _ (List.mem_append_right _ (t_9 hb e)))).2.1⟩
   have hSk:∀{G9:Hp},Same G7 G9→HasS X.K G9 σ6 δ':=fun{G9} sm=>hS6'.mono (stp7.gg.trans sm)
   cases b with
   |false=>
    rw [if_neg Bool.false_ne_true] at o1⊢
    exact⟨ds.length - (i + 1),by omega,i + 1,σ6,H7,G7,vs,rs,rfl,hlt,I7.unpinned,(bp I7).1,(bp I7).2,hSk (Same.refl _),st.trans (aj.trans stp7),sg.trans (aj.gg.trans stp7.gg),hD7,gD7,rl.mono (aj.gg.trans stp7.gg),by omega,o1⟩
   |true=>
    rw [if_pos rfl] at o1⊢
    refine wpAny_mono (hel _ s7 σ6 H7 (fun v H8=>∃w G8,f δ1= .ok w∧Step G7 H7 G8 H8∧Has X.K G8 v w.d) I7 ⟨G7,δ1,stp7.gh,hS6.mono stp7.gg, ?_⟩) (fun u8 s8 ⟨v8,H8,I8,r8,w8,G8,e8,stp8,hv8⟩=> ?_) fun _ _ z=>False.elim z
    ·cases e8:f δ1 with
     |ok w=>exact WP.intro fun v G8 H8 st8 r8=>⟨w,G8,rfl,st8,r8⟩
     |ex x=>rw [e8] at o1;exact o1
     |no=>rw [e8] at o1;exact o1
    rw [e8] at o1
    simp only [R.bind_ok] at o1
    have gD8:G8 Da=none:=stp8.nw Da gD7 (by rw [hD7];simp)
    have hD8:H8 Da=some (.lst vs):=stp8.hh _ _ hD7
    have rl8:HasL X.K G8 vs rs:=rl.mono (aj.gg.trans (stp7.gg.trans stp8.gg))
    refine wpAny_mono (ae_6 (X:=X') _ s8 σ6 H8 (.ref Da) [v8] (.ref Da) [u8] (fun _ H9=>H9=upd H8 Da (.lst (vs ++ [v8]))) I8 rfl (.cons r8 .nil) ⟨Da,vs,v8,rfl,rfl,hD8,by rw [rl.length,sizeLine_eq];omega,rfl⟩) (fun _ s9 ⟨_,H9,I9,_,e9⟩=> ?_) fun _ _ z=>False.elim z
    subst e9
    have stA:=st.trans (aj.trans (stp7.trans stp8))
    refine⟨ds.length - (i + 1),by omega,i + 1,σ6,_,G8,vs ++ [v8],rs ++ [w8.d],rfl,hlt,I9.unpinned,(bp I9).1,(bp I9).2,hSk stp8.gg,⟨fun b o z=> ?_,fun b o z=> ?_,stA.gg,stA.nw⟩,sg.trans (aj.gg.trans (stp7.gg.trans stp8.gg)),b_6,gD8,rl8.append (.cons hv8 .nil),by rw [List.length_append,List.length_singleton];omega, ?_⟩
    ·rw [b_0 (b_8 z hfD)];exact stA.hh b o z
    ·rw [b_0 (b_8 z gD8)];exact stp8.gh b o z
    ·cases e10:m_8 fg p f δ' (ds.drop (i + 1)) with
     |ok rs2=>
      rw [e10] at o1
      simp only [R.bind_ok] at o1⊢
      rw [List.append_assoc]
      exact o1
     |ex x=>rw [e10] at o1;exact o1
     |no=>rw [e10] at o1;exact o1
  ·have e:ds.length=i:=by omega
   refine thn (T.done X' rfl rfl rfl hc i [] s' σ' H' _ I' (bt rfl fn') tni (i2 e)) fun r s1 ⟨hr,I1⟩=> ?_
   subst hr
   rw [List.drop_eq_nil_of_le (by omega)] at o'
   have o1:c_8 m fi fg p f δ= .ok (.ow (.lst (rs ++ []))):=o'
   rw [List.append_nil] at o1
   obtain⟨mm,hnm,_⟩:=I1.loc
   have ez:Inv X zd σ H' s1:=I3.call' (s':=s1) (ch:=fp) I1.os I1.base I1.hok I1.bare fun b hb=>by
    obtain⟨f0,f1',f2',f3,f4,f5⟩:=f2 b hb
    exact⟨f3,f1',f4,f5⟩
   exact hRR Da C s1 G2 H2 G' H' vs rs o1 ez ⟨mm,hnm⟩ (I3.fpOk (by show hp3.objs.size≤C;omega) I1.free) hz2 st hfD hD gD rl
 exact codeAny_compStart_list (loop _ I4 stn) (T.self X.A 0 _ _ _ stn (loop _ I4 stn))
theorem am_0{elt iter tg:Expr}{ifs:List Expr}{scope:Scope}{N':List Str}{fi:FI}{fg:FGc}{p:FT}{f:FE}{m:Nat}(hx0:∀e s,¬X.xe e s)(hc:X.calm=true)(hi:ID X l_5 tg iter fi)(hk:scope.kind= .function)(hb:ah_2 scope.names X.env.scope.names X.N N'=true)
  (hm:N'.length=X.N.length + m)
  (hin:∀C s0 H0 fp pn,GC (g_6 X scope (k_6 X.env.cells scope.names []) N' C s0 H0 fp pn) l_5 tg fg∧CTs (g_6 X scope (k_6 X.env.cells scope.names []) N' C s0 H0 fp pn) l_5 ifs p∧ED (g_6 X scope (k_6 X.env.cells scope.names []) N' C s0 H0 fp pn) l_5 elt f)
  {zd:List (Addr×Obj)} {s:Shared} {σ:Sg} {G H:Hp} {δ:DE} (I:Inv X zd σ H s) (g0:Same G H) (h0:HasS X.K G σ δ) {RR:Value→Addr→Result→Shared→Prop}
  (o:match c_8 m fi fg p f δ with| .ok _=>True| .ex x=>False| .no=>False)
  (hRR:∀(Da C:Addr) (s1:Shared) (G' H':Hp) (vs:List V) (rs:List D),c_8 m fi fg p f δ= .ok (.ow (.lst rs))→Inv X zd σ H' s1→(∃m,s1.heap.Ns C m)→FpOk X zd H' C→Step G H G' H'→H Da=none→H' Da=some (.lst vs)→G' Da=none→HasL X.K G' vs rs→RR (.ref Da) C (.ok .next) s1):
  wpAny (model X.prog X.w) X.A (eval iter X.env) (fun x s₁=>wpAny (model X.prog X.w) X.A (pyIter x) (fun it s₂=>wpAny (model X.prog X.w) X.A (newList []) (fun acc s₃=>
   wpAny (model X.prog X.w) X.A (newFunctionEnv scope X.env.globals (k_6 X.env.cells scope.names []) [] X.env.qual none .none (some X.env)) (fun cenv s₄=>
    codeAny (model X.prog X.w) X.A (.compStart (.ListComp elt [⟨tg,iter,ifs,0⟩] scope pos) 0 it acc {cenv with scope:=relabel scope X.env}) (RR acc cenv.locals) s₄) X.xe s₃) X.xe s₂) X.xe s₁) X.xe s:=by
 refine bs_5 hx0 hc hk hb hm hin I (Z:=fun G2 H2=>Step G H G2 H2) (fun G2 H2 z=>⟨z.gh,h0.mono z.gg⟩) ?_ o fun Da C s1 G2 H2 G' H' vs rs e Io hm' fc z st h1 h2 h3 rl=>hRR Da C s1 G' H' vs rs e Io hm' fc (z.trans st) (z.hh.free h1) h2 h3 rl
 refine wpAny_mono (hi zd s σ H (fun J H2=>∃ds G2,fi δ= .ok ds∧Step G H G2 H2∧ItD X.K G2 J ds) I ⟨G,δ,g0,h0, ?_⟩) (fun xv s₁ h₁=>wpAny_mono h₁ (fun itv s₂ h₂=> ?_) fun _ _ e=>(hx0 _ _ e).elim) fun _ _ e=>(hx0 _ _ e).elim
 ·unfold c_8 at o
  cases e:fi δ with
  |ok ds=>exact fun J G2 H2 st it=>⟨ds,G2,rfl,st,it⟩
  |ex x=>rw [e] at o;exact o
  |no=>rw [e] at o;exact o
 ·obtain⟨it,fp,tn,J,H2,rfl,I2,T,st2,f2,ds,G2,e2,stp,itd⟩:=h₂
  exact⟨it,fp,tn,J,H2,ds,G2,rfl,I2,T,st2,f2,e2,stp,itd⟩
theorem by_2{elt iter tg:Expr}{ifs:List Expr}{scope:Scope}{N':List Str}{fi:FI}{fg:FGc}{p:FT}{f:FE}{m:Nat}(hx0:∀e s,¬X.xe e s)(hc:X.calm=true)(hi:ID X l_5 tg iter fi)(hk:scope.kind= .function)(hb:ah_2 scope.names X.env.scope.names X.N N'=true)
  (hm:N'.length=X.N.length + m)
  (hin:∀C s0 H0 fp pn,GC (g_6 X scope (k_6 X.env.cells scope.names []) N' C s0 H0 fp pn) l_5 tg fg∧CTs (g_6 X scope (k_6 X.env.cells scope.names []) N' C s0 H0 fp pn) l_5 ifs p∧ED (g_6 X scope (k_6 X.env.cells scope.names []) N' C s0 H0 fp pn) l_5 elt f)
  (hs:∀x,foldedSetIterable iter X.env x=pure x:=by intro _;rfl):ED X l_5 (.ListComp elt [⟨tg,iter,ifs,0⟩] scope pos) (c_8 m fi fg p f):=by
 intro zd s σ H Q I q
 obtain⟨G,δ,g0,h0,o⟩:=q
 rw [eval_ListComp]
 have n:=al_9 I.ok hk hb
 refine wpAny_comprehension_free (use:=none) rfl hs n.clos n.kind n.names (am_0 (RR:=fun acc C=>compPost (model X.prog X.w) X.A X.xe none (EP X zd σ Q) acc C) hx0 hc hi hk hb hm hin I g0 h0 ?_ fun Da C s1 G' H' vs rs e Io hm' fc st h1 h2 h3 rl=> ?_)
 ·cases e:c_8 m fi fg p f δ with
  |ok w=>trivial
  |ex x=>rw [e] at o;exact o
  |no=>rw [e] at o;exact o
 ·rw [e] at o
  obtain⟨mm,hnm⟩:=hm'
  obtain⟨c0,c1,c2,c3,c4,c5⟩:=fc
  exact⟨mm,hnm,fun h' sb=>⟨.ref Da,H',Io.turned (t':=s1.toks) (fun b ob hb e=>(sb.2 b hb).trans e) c0 c1 c3 c4 c5,rfl,o (.ref Da) (fun b=>b=Da) G' H' st (fun a e=>by subst e;exact⟨h1,h3,by rw [h2];simp⟩) (.list h2 rfl rl)⟩⟩
theorem j_0{elt iter tg:Expr}{ifs:List Expr}{scope:Scope}{N':List Str}{fi:FI}{fg:FGc}{p:FT}{f:FE}{m:Nat}(hc:X.calm=true)(hi:ID X.nox l_5 tg iter fi)(hk:scope.kind= .function)(hb:ah_2 scope.names X.env.scope.names X.N N'=true)
  (hm:N'.length=X.N.length + m)
  (hin:∀C s0 H0 fp pn,GC (g_6 X scope (k_6 X.env.cells scope.names []) N' C s0 H0 fp pn) l_5 tg fg∧CTs (g_6 X scope (k_6 X.env.cells scope.names []) N' C s0 H0 fp pn) l_5 ifs p∧ED (g_6 X scope (k_6 X.env.cells scope.names []) N' C s0 H0 fp pn) l_5 elt f)
  (hs:∀x,foldedSetIterable iter X.env x=pure x:=by intro _;rfl):ED X EX (.ListComp elt [⟨tg,iter,ifs,0⟩] scope pos) (c_8 m fi fg p f):=
 PE.imp (PE.nox (by_2 (X:=X.nox) (fun _ _ z=>z) hc hi hk hb hm hin hs)) fun σ H Q ⟨G,δ,g0,h0,o⟩=>by
  refine⟨G,δ,g0,h0, ?_⟩
  cases e:c_8 m fi fg p f δ with
  |ok w=>rw [e] at o;exact o
  |ex x=>exact(bc_7 e).elim
  |no=>rw [e] at o;exact o
theorem PS.nox{st:Stmt}{t:TS}(h:PS X.nox st t):PS X st t:=fun zd s σ H D I hw=>
 wpAny_mono (h zd s σ H D (I.wish _) hw) (fun _ _ q=>q.unwish) fun _ _ z=>False.elim z
theorem ch_5{i:Nat}{js:List Nat}{f:FE}(h:∀δ x,f δ≠ .ex x){Δ Δ':SE}{x:Xn}(e:sSet i js f Δ= .ex x Δ'):False:=by
 unfold sSet at e
 have hp:∀Δ2,sPut i Δ2 (f (vsh Δ2))= .ex x Δ'→False:=fun Δ2 e2=>by
  unfold sPut at e2
  cases q:f (vsh Δ2) with
  |ok w=>rw [q] at e2;cases w <;> cases e2
  |ex y=>exact h _ _ q
  |no=>rw [q] at e2;cases e2
 cases q:f (vsh Δ) with
 |ok w=>rw [q] at e;cases w <;> cases e
 |ex y=>exact h _ _ q
 |no=>
  rw [q] at e
  cases q2:f (vall Δ) with
  |ok w=>
   simp only [q2] at e
   split at e
   ·cases e
   ·exact hp _ e
  |ex y=>exact h _ _ q2
  |no=>simp only [q2] at e;cases e
theorem by_3(js:List Nat){elt iter tg:Expr}{ifs:List Expr}{scope:Scope}{N':List Str}{fi:FI}{fg:FGc}{p:FT}{f:FE}{m i:Nat}{y:Str}{py bf:Pos}(hx0:∀e s,¬X.xe e s)(hc:X.calm=true)(hi:ID X l_5 tg iter fi)(hk:scope.kind= .function)(hb:ah_2 scope.names X.env.scope.names X.N N'=true)
  (hm:N'.length=X.N.length + m)
  (hin:∀C s0 H0 fp pn,GC (g_6 X scope (k_6 X.env.cells scope.names []) N' C s0 H0 fp pn) l_5 tg fg∧CTs (g_6 X scope (k_6 X.env.cells scope.names []) N' C s0 H0 fp pn) l_5 ifs p∧ED (g_6 X scope (k_6 X.env.cells scope.names []) N' C s0 H0 fp pn) l_5 elt f)
  (hN:X.N.Nodup) (hy:X.N[i]? =some y:=by rfl) (hx:Loc X.env.scope y:=by first|exact Or.inl rfl|exact Or.inr rfl) (hf:X.fn y=true∨X.env.scope.names.lookup y=some .local:=by first|exact .inl rfl|exact .inr rfl|assumption)
  (hsw:swapsWith (.ListComp elt [⟨tg,iter,ifs,0⟩] scope pos) (some (.Name y py)) bf.line X.env=pure true:=by rfl)
  (hs:∀x,foldedSetIterable iter X.env x=pure x:=by intro _;rfl):SD X l_5 (.Assign [.Name y py] (.ListComp elt [⟨tg,iter,ifs,0⟩] scope pos) bf) (sSet i js (c_8 m fi fg p f)):=by
 intro zd s σ H D I q
 have q2:=bc_6 q
 obtain⟨G,δ,g0,h0,o⟩:=q2
 have n:=al_9 I.ok hk hb
 rw [exec_Assign_Name_used _ _ _ _ hsw]
 refine wpAny_bind (wpAny_standAt (wpAny_bind ?_))
 show wpAny _ X.A (do let _←comprehension (.ListComp elt [⟨tg,iter,ifs,0⟩] scope pos) scope X.env _ (newList []) false (eval iter X.env) (some (assign (.Name y py) X.env))) _ _ s
 refine wpAny_bind (wpAny_mono (wpAny_comprehension_free (use:=some (assign (.Name y py) X.env)) (Q:=fun _ s'=>SP X zd D .next s') rfl hs n.clos n.kind n.names
  (am_0 (RR:=fun acc C=>compPost (model X.prog X.w) X.A X.xe (some (assign (.Name y py) X.env)) (fun _ s'=>SP X zd D .next s') acc C) hx0 hc hi hk hb hm hin I g0 h0 ?_ fun Da C s1 G' H' vs rs e Io hm' fc st h1 h2 h3 rl=> ?_)) (fun _ s' hq=>wpAny_pure (wpAny_pure hq)) fun _ _ e=>e)
 ·cases e:c_8 m fi fg p f δ with
  |ok w=>trivial
  |ex x=>rw [e] at o;exact o
  |no=>rw [e] at o;exact o
 ·rw [e] at o
  obtain⟨mm,hnm⟩:=hm'
  obtain⟨c0,c1,c2,c3,c4,c5⟩:=fc
  show wpAny _ X.A (assign (.Name y py) X.env (.ref Da)) _ _ _
  refine wpAny_assign_Name (ar_5 Io hN hy hx (v:= .ref Da) rfl (fun s2 I2 ⟨a,sb,ha⟩=> ?_) hf)
  have hCa:C≠a:=by
   rcases ha with rfl|ha
   ·exact c1
   ·exact fun z=>c4 y a ha z.symm
  refine⟨mm,hnm.sameBut sb hCa,fun h' sb'=>⟨_,H',I2.turned (t':=s2.toks) (fun b ob hb e=>(sb'.2 b hb).trans e) c0 c1 c3 c4 c5, ?_⟩⟩
  exact o (.ref Da) (fun b=>b=Da) G' H' st (fun a e=>by subst e;exact⟨h1,h3,by rw [h2];simp⟩) (.list h2 rfl rl)
theorem ch_6(js:List Nat){elt iter tg:Expr}{ifs:List Expr}{scope:Scope}{N':List Str}{fi:FI}{fg:FGc}{p:FT}{f:FE}{m i:Nat}{y:Str}{py bf:Pos}(hc:X.calm=true)(hi:ID X.nox l_5 tg iter fi)(hk:scope.kind= .function)(hb:ah_2 scope.names X.env.scope.names X.N N'=true)
  (hm:N'.length=X.N.length + m)
  (hin:∀C s0 H0 fp pn,GC (g_6 X scope (k_6 X.env.cells scope.names []) N' C s0 H0 fp pn) l_5 tg fg∧CTs (g_6 X scope (k_6 X.env.cells scope.names []) N' C s0 H0 fp pn) l_5 ifs p∧ED (g_6 X scope (k_6 X.env.cells scope.names []) N' C s0 H0 fp pn) l_5 elt f)
  (hN:X.N.Nodup) (hy:X.N[i]? =some y:=by rfl) (hx:Loc X.env.scope y:=by first|exact Or.inl rfl|exact Or.inr rfl) (hf:X.fn y=true∨X.env.scope.names.lookup y=some .local:=by first|exact .inl rfl|exact .inr rfl|assumption)
  (hsw:swapsWith (.ListComp elt [⟨tg,iter,ifs,0⟩] scope pos) (some (.Name y py)) bf.line X.env=pure true:=by rfl)
  (hs:∀x,foldedSetIterable iter X.env x=pure x:=by intro _;rfl):SD X EX (.Assign [.Name y py] (.ListComp elt [⟨tg,iter,ifs,0⟩] scope pos) bf) (sSet i js (c_8 m fi fg p f)):=
 PS.imp (PS.nox (by_3 (X:=X.nox) js (fun _ _ z=>z) hc hi hk hb hm hin hN hy hx hf hsw hs)) fun D σ H ⟨H0,G0,G,Δ,O,E,q⟩=>by
  refine⟨H0,G0,G,Δ,O,E, ?_⟩
  cases e:sSet i js (c_8 m fi fg p f) Δ with
  |ex x Δ'=>exact(ch_5 (fun _ _ z=>bc_7 z) e).elim
  |_=>rw [e] at q;exact q
end
theorem at_2:bootBuiltins "bool" =some (.type "bool"):=by decide +kernel
theorem d_5{k:Nat}{scope:Scope}{cl:List (Str×Addr)}{N':List Str}{C:Addr}{s0:Shared}{H0:Hp}{fp:List Addr}{pn:List (Addr×Obj)}{c:Bool}(h:RoomC c k (Cx.A X)):RoomC c k (Cx.A (g_6 X scope cl N' C s0 H0 fp pn)):=h
theorem bs_6{scope:Scope}{cl:List (Str×Addr)}{N':List Str}{C:Addr}{s0:Shared}{H0:Hp}{fp:List Addr}{pn:List (Addr×Obj)}(h:Cx.calm X=true):Cx.calm (g_6 X scope cl N' C s0 H0 fp pn)=true:=h
section
variable{X:Cx}{EX:EXS}{a b e:Expr}{es:List Expr}{f g:FE}{fa:FA}{pos p2:Pos}
abbrev FO:=DE→R (Option Int)
def tDo(K:Frag)(EX:EXS)(fo:FO):TO:=fun σ H Q=>∃G δ,Same G H∧HasS K G σ δ∧match fo δ with
 | .ok i=>∀G' H',Step G H G' H'→Q i H'
 | .ex x=>(EX σ).p x G H
 | .no=>False
abbrev OD(X:Cx)(EX:EXS)(e:Option Expr)(fo:FO):Prop:=PO X e (tDo X.K EX fo)
def oNone:FO:=fun _=> .ok none
def intPart:D→R (Option Int)
 | .int i=> .ok (some i)
 |_=> .no
def oSome(f:FE):FO:=fun δ=>(f δ).bind fun w=>intPart w.d
theorem PO.imp{e:Option Expr}{t t':TO}(h:PO X e t)(i:∀σ H Q,t' σ H Q→t σ H Q):PO X e t':=fun zd s σ H Q I q=>h zd s σ H Q I (i σ H Q q)
theorem bn_8:OD X EX none oNone:=PO.imp cf_5 fun σ H Q ⟨G,δ,g,s,o⟩=>o G H (Step.refl g)
theorem bn_9(h:ED X EX e f):OD X EX (some e) (oSome f):=PO.imp (cf_6 h) fun σ H Q ⟨G,δ,g,s,o⟩=>by
 refine⟨G,δ,g,s, ?_⟩
 unfold oSome at o
 cases e1:f δ with
 |ok w=>
  rw [e1] at o
  simp only [R.bind_ok] at o
  refine WP.intro fun v G' H' st r=> ?_
  revert r o
  cases w.d with
  |int i=>intro o r;cases r;exact⟨i,rfl,o G' H' st⟩
  |_=>intro o _;exact False.elim o
 |ex x=>rw [e1] at o;exact o
 |no=>rw [e1] at o;exact o
def v_9{α:Type}(xs:List α)(lo hi:Option Int):List α:=(xs.drop (HT.sIx xs.length 0 lo)).take (HT.sIx xs.length xs.length hi - HT.sIx xs.length 0 lo)
def aw_4:D→Option Int→Option Int→R W
 | .lst ds,lo,hi=> .ok (.ow (.lst (v_9 ds lo hi)))
 | .str x,lo,hi=>if x.length≤16777216 then .ok (.sh (.str (Txt.slice x lo hi))) else .no
 |_,_,_=> .no
theorem cr_9:SlR X (fun x lo hi H Q=>∃z,x= .str z∧z.length≤sizeLine∧Q (.str (Txt.slice z lo hi)) H):=by
 intro zd s σ H x v vl vu lo hi sl Q I rx hs pl pu h
 obtain⟨z,rfl,hz,q⟩:=h
 obtain⟨t,rfl⟩:=rx
 refine⟨"str",_,PySem.F.slot_str_getitem.lookup,typeIs_str _ _ _, ?_⟩
 obtain⟨o,ho,hc,hd⟩:=hs
 have fin:∀t' k,EP X zd σ Q (.str (Txt.slice z lo hi) t') {s with toks:=k}:=fun t' k=>⟨.str _,H,I.tok _,⟨_,rfl⟩,q⟩
 cases pl with
 |none=>
  cases pu with
  |none=>exact wpAny_getItem_str_slice (l:=none) (u:=none) (st:=none) ⟨o,ho,hc,hd⟩ rfl (post_val_or_str ⟨Nat.le_trans (Txt.slice_le z _ _) hz,fin⟩)
  |int j uj=>exact wpAny_getItem_str_slice (l:=none) (u:=some (j,uj)) (st:=none) ⟨o,ho,hc,hd⟩ rfl (post_val_or_str ⟨Nat.le_trans (Txt.slice_le z _ _) hz,fin⟩)
 |int i ui=>
  cases pu with
  |none=>exact wpAny_getItem_str_slice (l:=some (i,ui)) (u:=none) (st:=none) ⟨o,ho,hc,hd⟩ rfl (post_val_or_str ⟨Nat.le_trans (Txt.slice_le z _ _) hz,fin⟩)
  |int j uj=>exact wpAny_getItem_str_slice (l:=some (i,ui)) (u:=some (j,uj)) (st:=none) ⟨o,ho,hc,hd⟩ rfl (post_val_or_str ⟨Nat.le_trans (Txt.slice_le z _ _) hz,fin⟩)
def rSlD(K:Frag):V→Option Int→Option Int→Hp→VK→Prop:=fun x lo hi H Q=>∃(EX:EXT) (G:Hp) (d:D),Same G H∧Has K G x d∧Out K EX G H (aw_4 d lo hi) Q
theorem sl_d:SlR X (rSlD X.K):=by
 intro zd s σ H x v vl vu lo hi sl Q I rx hs pl pu h
 obtain⟨EX,G,d,g,r,o⟩:=h
 cases r with
 |lst h r=>
  rename_i vs ds
  refine cf_9 zd s σ H _ v vl vu lo hi sl Q I rx hs pl pu ⟨_,_,rfl,g.seq h,fun p hp=> ?_⟩
  have df:HasL X.K G (cutV vs lo hi) (v_9 ds lo hi):=by
   unfold cutV v_9
   rw [r.length]
   exact(r.drop _).take _
  exact q_4 o g df p hp
 |str z=>
  simp only [aw_4] at o
  split at o
  ·rename_i hz
   exact cr_9 zd s σ H _ v vl vu lo hi sl Q I rx hs pl pu ⟨z,rfl,by rw [sizeLine_eq];exact hz,d_9 o g (.str _)⟩
  ·exact o.elim
 |_=>exact False.elim o
def eSlice(f:FE)(lo hi:FO):FE:=fun δ=>(f δ).bind fun w=>(lo δ).bind fun l=>(hi δ).bind fun u=>aw_4 w.d l u
theorem tDo.seq{G H:Hp}{σ:Sg}{δ:DE}{fo:FO}{k:Option Int→R W}{Q:VK}{P:Option Int→Hp→Prop}(g:Same G H)(s:HasS K G σ δ)(h:Out K (EX σ) G H ((fo δ).bind k) Q)
  (i:∀b G' H',fo δ= .ok b→Step G H G' H'→Out K (EX σ) G' H' (k b) Q→P b H'):tDo K EX fo σ H P:=by
 refine⟨G,δ,g,s, ?_⟩
 cases e:fo δ with
 |ok w=>rw [e] at h;exact fun G' H' st=>i w G' H' e st (Out.mono st h)
 |ex x=>rw [e] at h;exact h
 |no=>rw [e] at h;exact h
theorem bd_1{lo hi:Option Expr}{fl fh:FO}(he:ED X EX e f)(hl:OD X EX lo fl)(hu:OD X EX hi fh):ED X EX (.Subscript e (.Slice lo hi none p2) pos) (eSlice f fl fh):=
 PE.imp (bw_2 sl_d he hl hu) fun σ H Q ⟨G,δ,g0,s0,o⟩=>tD.seq g0 s0 o fun w v G1 H1 _ st1 r1 o1=>tDo.seq st1.gh (s0.mono st1.gg) o1 fun l G2 H2 _ st2 o2=>
  tDo.seq st2.gh (s0.mono (st1.gg.trans st2.gg)) o2 fun u G3 H3 _ st3 o3=>⟨_,G3,w.d,st3.gh,r1.mono (st2.gg.trans st3.gg),o3⟩
def tyD(T:String):D→Bool
 | .str _=>T == "str"
 | .int _=>T == "int"
 | .lst _=>T == "list"
 |_=>false
theorem cx_1{G H:Hp}{T:String}{d:D}(g:Same G H)(r:Has K G v d)(h:tyD T d=true):tyV K T v H:=by
 cases r with
 |str x=>exact eq_of_beq h
 |int i=>exact eq_of_beq h
 |lst hq r=>exact .inl ⟨eq_of_beq h,_,g.seq hq⟩
 |_=>cases h
def rDm(K:Frag)(fn:D→List D→R W):V→List V→Hp→VK→Prop:=fun x vs H Q=>∃(EX:EXT) (G:Hp) (d:D) (ds:List D),Same G H∧Has K G x d∧HasL K G vs ds∧Out K EX G H (fn d ds) Q
abbrev MtD(X:Cx)(id:String)(fn:D→List D→R W):Prop:=MtR X id (rDm X.K fn)
def eMeth(T:String)(fn:D→List D→R W)(f:FE)(fa:FA):FE:=fun δ=>(f δ).bind fun w=>if tyD T w.d=true then(fa δ).bind fun ds=>fn w.d ds else .no
variable{o:Expr}{name:Str}{zh zf:Pos}{T id:String}{fn:D→List D→R W}
theorem bo_0(pa:PlainAttrs T)(slot:Slot T name id)(hty:typeOf (.builtin id)=pure (.type "method_descriptor"))(hm:MtD X id fn)(ho:ED X EX o f)(ha:AD X EX (e::es) fa)
  (aa:attributeBase o name X.env (eval o X.env)=eval o X.env:=by rfl)
  (ba:((backTo zf (starEach (e::es) X.env)).all (fun x=> !x.1) && (backToKw zf (keywordEach [] X.env)).all (fun x=>x.1.isSome)
   && decide ((e::es).length + ([]:List Keyword).length + (if([]:List Keyword).isEmpty then 0 else 1) < 30))=true:=by rfl)
  (af:(zh.endLine ==zf.line)=true:=by rfl) (hs:starEach (e::es) X.env=(false,eval e X.env)::starEach es X.env:=by rfl) (ae:(backTo zf (starEach es X.env)).any (·.1)=false:=by rfl):
  ED X EX (.Call (.Attribute o name zh) (e::es) [] zf) (eMeth T fn f fa):=
 PE.imp (bw_5 pa slot hty hm ho ha aa ba af hs ae) fun σ H Q ⟨G,δ,g0,s0,o⟩=>tD.seq g0 s0 o fun w v G1 H1 _ st1 r1 o1=>by
  split at o1
  ·rename_i ht
   exact⟨cx_1 st1.gh r1 ht,tDa.seq st1.gh (s0.mono st1.gg) o1 fun ds vs G2 H2 _ st2 r2 o2=>⟨_,G2,w.d,ds,st2.gh,r1.mono st2.gg,r2,o2⟩⟩
  ·exact o1.elim
def eMeth0(T:String)(fn:D→List D→R W)(f:FE):FE:=fun δ=>(f δ).bind fun w=>if tyD T w.d=true then fn w.d [] else .no
theorem bo_1{G:Hp}{d:D}{ds:List D}(r:Has K G v d)(rl:HasL K G vs ds){P:Prop}(h:∀x y,v= .str x→d= .str x→vs= [.str y]→ds= [.str y]→P)(n:(∀x y,¬(d= .str x∧ds= [.str y]))→P):P:=by
 by_cases e:∃x y,d= .str x∧ds= [.str y]
 ·obtain⟨x,y,rfl,rfl⟩:=e
  cases r
  cases rl with
  |cons a t=>cases a;cases t;exact h x y rfl rfl rfl rfl
 ·exact n fun x y z=>e ⟨x,y,z⟩
def bd_2:D→List D→R W
 | .str x, [.str y]=> .ok (.sh (.int (Txt.find x y)))
 |_,_=> .no
theorem by_4:MtD X "str.find" bd_2:=by
 intro zd s σ H x vs v us Q I rx rv h
 obtain⟨EX,G,d,ds,g,r,rl,o⟩:=h
 refine bo_1 r rl (fun x y e1 e2 e3 e4=> ?_) fun n=> ?_
 ·subst e1 e2 e3 e4
  obtain⟨t,rfl⟩:=rx
  obtain⟨u,rfl,t',rfl⟩:=rv.one
  exact SC.find ⟨.int _,H,I.tok _,⟨_,rfl⟩,d_9 o g (.int _)⟩
 ·have e:bd_2 d ds= .no:=by
   unfold bd_2
   split
   ·rename_i x y;exact absurd ⟨rfl,rfl⟩ (n x y)
   ·rfl
  rw [e] at o
  exact o.elim
def isT(T:String):D→Option Bool
 | .non=>some false
 | .bl _=>some (T == "bool" || T == "int")
 | .int _=>some (T == "int")
 | .str _=>some (T == "str")
 | .lst _=>some (T == "list")
 | .tup _=>some (T == "tuple")
 |_=>none
def eIs(T:String)(f:FE):FE:=fun δ=>(f δ).bind fun w=>match isT T w.d with
 |some k=> .ok (.sh (.bl k))
 |none=> .no
structure KitT(K:Frag)(T:String):Prop where
 non:kitOne K (.type "NoneType") (.type T)=some false
 bl:kitOne K (.type "bool") (.type T)=some (T == "bool" || T == "int")
 int:kitOne K (.type "int") (.type T)=some (T == "int")
 str:kitOne K (.type "str") (.type T)=some (T == "str")
 lst:kitOne K (.type "list") (.type T)=some (T == "list")
 tup:kitOne K (.type "tuple") (.type T)=some (T == "tuple")
theorem by_5{T:String}(k:KitT X.K T):y_6 X (.builtin "isinstance") (fun xs H Q=>∃G x d b,xs= [x, .ty T]∧Same G H∧Has X.K G x d∧isT T d=some b∧Q (.bl b) H):=by
 intro zd s σ H xs us Q I rv h
 obtain⟨G,x,d,b,rfl,g,r,e,q⟩:=h
 obtain⟨u,u2,rfl,r1,r2⟩:=rv.two
 cases r2
 have fin:∀tk,EP X zd σ Q (.bool b) {s with toks:=tk}:=fun tk=>⟨.bl b,H,I.tok _,rfl,q⟩
 cases r with
 |non=>cases r1;exact kia_one kitx_none I.kIn True.intro (k.non.trans e) (fun z=>nomatch z) fin
 |bl y=>cases r1;exact kia_one kitx_bool I.kIn True.intro (k.bl.trans e) (fun z=>nomatch z) fin
 |int i=>obtain⟨t,rfl⟩:=r1;exact kia_one kitx_int I.kIn True.intro (k.int.trans e) (fun z=>nomatch z) fin
 |str y=>obtain⟨t,rfl⟩:=r1;exact kia_one kitx_str I.kIn True.intro (k.str.trans e) (fun z=>nomatch z) fin
 |lst h r=>
  cases r1
  obtain⟨its,_,⟨ob,n,e1,c,_,_⟩,_⟩:=I.list (g.seq h)
  exact kia_one kitx_list I.kIn ⟨ob,e1,c⟩ (k.lst.trans e) (fun z=>nomatch z) fin
 |tup h r=>
  cases r1
  obtain⟨its,_,⟨ob,e1,c,_⟩,_⟩:=I.tuple (Same.tupS g h)
  exact kia_one kitx_tuple I.kIn ⟨ob,e1,c⟩ (k.tup.trans e) (fun z=>nomatch z) fin
 |exn0 _ _=>cases e
 |exn1 _ _ _ _ _=>cases e
 |dic _ _ _=>cases e
 |obj _ _ _ _=>cases e
theorem w_0{Tn:Str}{T:String}{pp p3:Pos}(k:KitT X.K T)(ha:ED X EX a f)(hm:X.mg "isinstance" =none)(hmT:X.mg Tn=none)(hvT:bootBuiltins Tn=some (.type T))(hg:Gl X "isinstance" :=by rfl)(hgT:Gl X Tn:=by rfl)
  (hn:Tn≠ "__name__" :=by decide) (hdT:(Tn ==("__debug__" :Str))=false:=by decide)
  (he:starEach [a, .Name Tn p3] X.env=(false,eval a X.env)::starEach [.Name Tn p3] X.env:=by rfl) (hpl:(backTo pos (starEach [.Name Tn p3] X.env)).any (·.1)=false:=by rfl)
  (hs:starEach [.Name Tn p3] X.env=(false,eval (.Name Tn p3) X.env)::starEach [] X.env:=by rfl):ED X EX (.Call (.Name "isinstance" pp) [a, .Name Tn p3] [] pos) (eIs T f):=
 PE.imp (bb_6 (by_5 k) hg hm boot_isinstance (o_9 ha (o_9 (ce_5 (v:= .ty T) hgT hmT hvT rfl hn hdT) z_8 hs) he) (by decide) (by decide) he hpl) fun σ H Q ⟨G,δ,g0,s0,o⟩=>tD.seq g0 s0 o fun w v G1 H1 _ st1 r1 o1=>by
  split at o1
  ·rename_i b e
   exact⟨G1,v,w.d,b,rfl,st1.gh,r1,e,d_9 o1 st1.gh (.bl b)⟩
  ·exact o1.elim
end
def am_1(K:Frag):Sp:=fun vs H Q _=>∃(a:Addr) (ns:List Int),vs= [.ref a]∧SqL K H a (ns.map V.int)∧ns.length≤63∧∀H',Q (.bl true) H'
theorem bo_2{G:Hp}:∀ns:List Int,HasL K G (ns.map V.int) (ns.map D.int)
 | []=> .nil
 |n::ns=> .cons (.int n) (bo_2 ns)
theorem cs_0{w:World}{k:Nat}{f:Addr}{x:Str}{F:List D→R W}(h:FnX P w K mg base true k f fd [x] (spX K 1 F))
  (hF:∀ns:List Int,ns.length≤63→∃v,F [.lst (ns.map D.int)]= .ok v∧v.d= .bl true):FnOk P w K mg base CX0 k f fd [x] (am_1 K):=by
 have hs:∀vs H Q E,am_1 K vs H Q E→spX K 1 F vs H Q fun _ _ _=>False:=fun vs H Q E q=>by
  obtain⟨a,ns,rfl,hS,hl,q⟩:=q
  obtain⟨v,e,ev⟩:=hF ns hl
  refine⟨rfl,H, [.lst (ns.map D.int)],Same.refl _, .cons (.lst hS (bo_2 ns)) .nil, ?_⟩
  rw [e]
  refine WP.intro fun u G' H' st r=> ?_
  rw [ev] at r
  cases r
  exact q H'
 refine⟨fun vs H Q E q=>(hs vs H Q E q).1,fun A outer s H args us vs Q E hr e0 hb hv q=>codeAny_mono (h.run A outer s H args us vs Q _ (RoomC.of hr) e0 hb hv (hs vs H Q E q)) fun r s' hq=> ?_⟩
 cases r with
 |error e=>
  obtain⟨a,C,dx,T,H',_,_,_,_,_,_,_,_,_,_,z⟩:=hq
  exact z
 |ok fl=>cases fl <;> exact hq
theorem cx_2{l:PySem.W.OpenLaw}{q:Program}{loose:List Str}{XP:(Str→Option Value)→Heap→Prop}{YP:World→Heap→Prop}{d:DefRec}{K:Params→Frag}{x:Str}{k:Nat}(hn:l.most=some 63)(hdf:d.params.defaults= [])(hr:Room k callerA)
  (hY:∀(w:World) (h:Heap),YP w h→(K w.params).In h)
  (F:∀(w:World) (mg:Str→Option Value) (fa:Addr) (h:Heap),(K w.params).In h→h.Ns mainGlobals mg→mg d.name=some (.ref fa)→
   ∃fd:FuncData,(∀(s:Shared) (u:Value),BindsTo s fd ⟨[u], []⟩ [(x,u)])∧∀base:Heap,(K w.params).In base→base.Ns mainGlobals mg→FnOk l.prog w (K w.params) mg base CX0 k fa fd [x] (am_1 (K w.params))):
  PySem.W.WalkO q loose XP YP l.row.toRowW d [] (fun f vs=>PySem.call f vs):=
 cg_0 (n:=63) (k:=k) (x:=x) (CX:=fun _=>CX0) (sp:=fun w=>am_1 (K w.params)) hn (by decide) hdf hr hY F (fun _ _ a ns hl _ hS=>⟨a,ns,rfl,hS,hl,fun _=>rfl⟩) fun _ _ _ _ _ z=>z
theorem Inv.pair{zd:List (Addr×Obj)}{σ:Sg}{s:Shared}{e it:Addr}{h':Heap}{tk:Nat}{its:List Value}(I:Inv X zd σ H s)(fe:FpOk X zd H e)(fi:FpOk X zd H it)
  (k:∀b o,b≠e→b≠it→s.heap.get? b=some o→h'.get? b=some o) (he:∃o,h'.get? e=some o) (hi:∃o,h'.get? it=some o) (ht:h'.get? s.heap.objs.size=some {cls:= .type "tuple",data:= .seq its.toArray}) (rv:Vals vs its) (hz:vs.length≤sizeLine):
  Inv X zd σ (upd H s.heap.objs.size (.tup vs)) {s with heap:=h',toks:=tk}:=by
 have hn:H s.heap.objs.size=none:=I.hok.fresh (Nat.le_refl _)
 obtain⟨e0,e1,e2,e3,e4,e5⟩:=fe
 obtain⟨i0,i1,i2,i3,i4,i5⟩:=fi
 have neH:∀b u,H b=some u→b≠e∧b≠it:=fun b u q=>⟨fun z=>(by rw [z,e0] at q;cases q),fun z=>(by rw [z,i0] at q;cases q)⟩
 have lt:∀b o,s.heap.get? b=some o→b≠s.heap.objs.size:=fun b o q=>Nat.ne_of_lt (Heap.lt_size q)
 refine I.step (g':=s.gens) (d':=s.drawn) (ch:= [e,it]) (fun b hb=> ?_) (fun b o _ _ hc q _=>k b o (fun z=>hc (by simp [z])) (fun z=>hc (by simp [z])) q)
  (fun b o _ _ hc q _=>⟨o.slots,k b o (fun z=>hc (by simp [z])) (fun z=>hc (by simp [z])) q⟩) (fun b o _ q n=>by rw [b_0 (lt b o q)];exact n) (fun b o hc q=>⟨o,k b o (fun z=>hc (by simp [z])) (fun z=>hc (by simp [z])) q⟩)
  (fun b xs q=>by rw [b_0 (b_8 q hn)];exact q) (fun b o u q=>by rw [b_0 (b_8 q hn)];exact q) (fun b ps q=>⟨#[],by rw [b_0 (b_8 q hn),q];simp⟩) (fun m hm=> ?_) (fun b u q=> ?_) I.bare
 ·have hb':b=e∨b=it:=by simpa using hb
  rcases hb' with rfl|rfl
  ·exact⟨e3,e1,e4,e5⟩
  ·exact⟨i3,i1,i4,i5⟩
 ·obtain⟨o,es,ep,ho,r⟩:=hm
  exact⟨o,es,ep,k _ o (Ne.symm e1) (Ne.symm i1) ho,r⟩
 ·by_cases z:b=s.heap.objs.size
  ·subst z
   rw [b_6] at q
   cases q
   exact⟨hz,its,rv,⟨_,ht,rfl,0,rfl⟩⟩
  ·rw [b_0 z] at q
   refine(I.hok b u q).stay (fun c v hc r=> ?_) (fun c r=>by rw [b_0 (b_8 r hn)];exact r) fun c xs r=>by rw [b_0 (b_8 r hn)];exact r
   rcases hc with rfl|hc
   ·exact k c v (neH c u q).1 (neH c u q).2 r
   ·exact k c v (neH c _ hc).1 (neH c _ hc).2 r
theorem Inv.turned2{zd:List (Addr×Obj)}{σ:Sg}{s:Shared}{e it:Addr}{h':Heap}{tk:Nat}(I:Inv X zd σ H s)(fe:FpOk X zd H e)(fi:FpOk X zd H it)
  (k:∀b o,b≠e→b≠it→s.heap.get? b=some o→h'.get? b=some o):Inv X zd σ H {s with heap:=h',toks:=tk}:=by
 obtain⟨e0,e1,e2,e3,e4,e5⟩:=fe
 obtain⟨i0,i1,i2,i3,i4,i5⟩:=fi
 have neH:∀b u,H b=some u→b≠e∧b≠it:=fun b u q=>⟨fun z=>(by rw [z,e0] at q;cases q),fun z=>(by rw [z,i0] at q;cases q)⟩
 refine I.step (g':=s.gens) (d':=s.drawn) (ch:= [e,it]) (fun b hb=> ?_) (fun b o _ _ hc q _=>k b o (fun z=>hc (by simp [z])) (fun z=>hc (by simp [z])) q)
  (fun b o _ _ hc q _=>⟨o.slots,k b o (fun z=>hc (by simp [z])) (fun z=>hc (by simp [z])) q⟩) (fun b o _ q n=>n) (fun b o hc q=>⟨o,k b o (fun z=>hc (by simp [z])) (fun z=>hc (by simp [z])) q⟩)
  (fun b xs q=>q) (fun b o u q=>q) (fun b ps q=>⟨#[],by rw [q];simp⟩) (fun m hm=> ?_) (fun b u q=> ?_) I.bare
 ·have hb':b=e∨b=it:=by simpa using hb
  rcases hb' with rfl|rfl
  ·exact⟨e3,e1,e4,e5⟩
  ·exact⟨i3,i1,i4,i5⟩
 ·obtain⟨o,es,ep,ho,r⟩:=hm
  exact⟨o,es,ep,k _ o (Ne.symm e1) (Ne.symm i1) ho,r⟩
 ·refine(I.hok b u q).stay (fun c v hc r=> ?_) (fun c r=>r) fun c xs r=>r
  rcases hc with rfl|hc
  ·exact k c v (neH c u q).1 (neH c u q).2 r
  ·exact k c v (neH c _ hc).1 (neH c _ hc).2 r
def enL(K:Frag)(l:Addr):It:=
 ⟨fun i H=>∃xs x,SqL K H l xs∧xs[i]? =some x,fun i H v H'=>∃p,H p=none∧v= .ref p∧∀xs x,SqL K H l xs→xs[i]? =some x→H'=upd H p (.tup [.int (i:Int),x]),fun i H=>∃xs,SqL K H l xs∧xs.length=i⟩
def enS(z:Str):It:=
 ⟨fun i _=>i < z.cps.size,fun i H v H'=>∃p c,H p=none∧v= .ref p∧z.cps[i]? =some c∧H'=upd H p (.tup [.int (i:Int), .str ⟨#[c]⟩]),fun i _=>i=z.cps.size⟩
theorem by_6{w:World}{elts:List Expr}{x1:Nat}(e it l:Addr)(hei:e≠it):Turn P w K (.Tuple elts x1 pos) (enL K l) [e,it] e (fun i h=>(∃old,IsEnum h e it (i:Int) old)∧h.IsListIter it l i) where
 mem:=by simp
 obj:=fun i h st b hb=>by
  have hb':b=e∨b=it:=by simpa using hb
  rcases hb' with rfl|rfl
  ·obtain⟨⟨old,q⟩,_⟩:=st
   exact⟨_,q,fun v z=>by cases z⟩
  ·obtain⟨_,⟨o,q,c,d⟩⟩:=st
   exact⟨o,q,fun v z=>by rw [d] at z;cases z⟩
 keep:=fun i h h' st k=>by
  obtain⟨⟨old,q⟩,r⟩:=st
  exact⟨⟨old,k e (by simp) _ q⟩,r.at fun o z=>k it (by simp) o z⟩
 item:=by
  intro X hP hw hK hc i zd s σ H E I hf st hg
  subst hP hw hK
  obtain⟨xs,x,hq,hx⟩:=hg
  obtain⟨its,rv,p,hz⟩:=I.list hq
  obtain⟨u,hu,ru⟩:=rv.get hx
  obtain⟨⟨old,he⟩,hit⟩:=st
  have fe:=hf e (by simp)
  have fi:=hf it (by simp)
  have pl:=p.isList
  have nle:l≠e:=fun z=>by
   subst z
   obtain⟨o,ho,hc',_⟩:=pl
   rw [show s.heap.get? l=_ from he] at ho
   cases ho
   exact absurd hc' (by simp)
  have nli:l≠it:=fun z=>by
   subst z
   obtain⟨o,ho,hc',_⟩:=pl
   obtain⟨o',ho',hc2,_⟩:=hit
   rw [ho] at ho'
   cases ho'
   rw [hc'] at hc2
   exact absurd hc2 (by simp)
  have hlt:i < its.toArray.size:=by
   have:=(List.getElem?_eq_some_iff.mp hu).1
   simpa using this
  refine wpAny_pyNext_enum_itemD (Draws.list (A:=X.A.in1) (I.ok.hd hc) it l nli its.toArray) he ⟨hit,pl⟩ hlt hei (by simp [hei,Ne.symm nle]) fun y h' tk hy ho hst cz hsz kk=> ?_
  have ey:y=u:=by
   have:its.toArray[i]? =some u:=by simpa using hu
   rw [this] at hy
   exact(Option.some.inj hy).symm
  subst ey
  refine⟨_,rfl,wpAny_letOwnedTupleGo_enum ho fun h'' bj sb=> ?_⟩
  have aw:∃old,IsEnum h'' e it ((i + 1:Nat):Int) old:=⟨_,by
   have e1:((i + 1:Nat):Int)=(i:Int) + 1:=by omega
   rw [e1]
   exact bj⟩
  refine⟨.ref s.heap.objs.size,upd H s.heap.objs.size (.tup [.int (i:Int),x]), ?_,rfl,⟨_,I.hok.fresh (Nat.le_refl _),rfl,fun ys y' hy' ey'=> ?_⟩,⟨aw, ?_⟩,fun b hb=> ?_⟩
  ·have ne:s.heap.objs.size≠e:=fun z=>absurd (Heap.lt_size he) (by rw [←z];exact Nat.lt_irrefl _)
   refine Inv.pair (its:= [.int (i:Int) tk,y]) I fe fi (fun b o h1 h2 q=>(sb.2 b h1).trans (kk b o h1 h2 q)) ⟨_,bj⟩ ?_ ((sb.2 _ ne).trans cz) (.cons ⟨_,rfl⟩ (.cons ru .nil)) (by show 2≤sizeLine;decide)
   obtain⟨⟨o,q,_⟩,_⟩:=hst
   exact⟨o,(sb.2 it (Ne.symm hei)).trans q⟩
  ·have:=I.list_inj hy' hq
   subst this
   rw [hx] at ey'
   cases ey'
   rfl
  ·exact hst.1.at fun o z=>(sb.2 it (Ne.symm hei)).trans z
  ·have hb':b=e∨b=it:=by simpa using hb
   have hbl:b < s.heap.objs.size:=by
    rcases hb' with rfl|rfl
    ·exact Heap.lt_size he
    ·obtain⟨o,q,_⟩:=hit;exact Heap.lt_size q
   rw [b_0 (Nat.ne_of_lt hbl)]
   exact(hf b hb).1
 done:=by
  intro X hP hw hK hc i zd s σ H E I hf st hg
  subst hP hw hK
  obtain⟨xs,hq,hx⟩:=hg
  obtain⟨its,rv,p,hz⟩:=I.list hq
  obtain⟨⟨old,he⟩,hit⟩:=st
  have hl:=rv.length
  have pl:=p.isList
  have nli:l≠it:=fun z=>by
   subst z
   obtain⟨o,ho,hc',_⟩:=pl
   obtain⟨o',ho',hc2,_⟩:=hit
   rw [ho] at ho'
   cases ho'
   rw [hc'] at hc2
   exact absurd hc2 (by simp)
  have en:i=its.toArray.size:=by simp;omega
  refine wpAny_pyNext_enum_endD (Draws.list (A:=X.A.in1) (I.ok.hd hc) it l nli its.toArray) he (by rw [←en];exact⟨hit,pl⟩) fun h' eb=>⟨rfl, ?_⟩
  exact Inv.turned2 (tk:=s.toks) I (hf e (by simp)) (hf it (by simp)) fun b o h1 h2 q=>eb b o h2 q
 self:=fun A i s Q E st h=>by
  obtain⟨⟨old,he⟩,_⟩:=st
  exact wpAny_pyIter_enum he h
theorem at_3{prog:Program}{w:World}{A:Around}(hh:A.handled=none)(it:Addr)(x:Str)(t:Tok):
  Draws prog w A it [it] x.cps.size (fun i v=>∃c u,x.cps[i]? =some c∧v= .str ⟨#[c]⟩ u) (fun i h=>h.IsStrIter it (strIterType x) x t i):=by
 unfold strIterType
 cases ha:x.cps.all (· < 128)
 ·exact Draws.strWide hh it x t
 ·exact Draws.strAscii hh it x t
theorem by_7{w:World}{elts:List Expr}{x1:Nat}(e it:Addr)(z:Str)(t:Tok)(hei:e≠it):Turn P w K (.Tuple elts x1 pos) (enS z) [e,it] e (fun i h=>(∃old,IsEnum h e it (i:Int) old)∧h.IsStrIter it (strIterType z) z t i) where
 mem:=by simp
 obj:=fun i h st b hb=>by
  have hb':b=e∨b=it:=by simpa using hb
  rcases hb' with rfl|rfl
  ·obtain⟨⟨old,q⟩,_⟩:=st
   exact⟨_,q,fun v z=>by cases z⟩
  ·obtain⟨_,⟨o,q,c,d⟩⟩:=st
   exact⟨o,q,fun v z=>by rw [d] at z;cases z⟩
 keep:=fun i h h' st k=>by
  obtain⟨⟨old,q⟩,⟨o,r,c⟩⟩:=st
  exact⟨⟨old,k e (by simp) _ q⟩,⟨o,k it (by simp) o r,c⟩⟩
 item:=by
  intro X hP hw hK hc i zd s σ H E I hf st hg
  subst hP hw hK
  obtain⟨⟨old,he⟩,hit⟩:=st
  have fe:=hf e (by simp)
  have fi:=hf it (by simp)
  refine wpAny_pyNext_enum_itemD (at_3 (A:=X.A.in1) (I.ok.hd hc) it z t) he hit hg hei (by simp [hei]) fun y h' tk hy ho hst cz hsz kk=> ?_
  obtain⟨c,uc,hcx,rfl⟩:=hy
  refine⟨_,rfl,wpAny_letOwnedTupleGo_enum ho fun h'' bj sb=> ?_⟩
  have aw:∃old,IsEnum h'' e it ((i + 1:Nat):Int) old:=⟨_,by
   have e1:((i + 1:Nat):Int)=(i:Int) + 1:=by omega
   rw [e1]
   exact bj⟩
  refine⟨.ref s.heap.objs.size,upd H s.heap.objs.size (.tup [.int (i:Int), .str ⟨#[c]⟩]), ?_,rfl,⟨_,c,I.hok.fresh (Nat.le_refl _),rfl,hcx,rfl⟩,⟨aw, ?_⟩,fun b hb=> ?_⟩
  ·have ne:s.heap.objs.size≠e:=fun z=>absurd (Heap.lt_size he) (by rw [←z];exact Nat.lt_irrefl _)
   refine Inv.pair (its:= [.int (i:Int) tk, .str ⟨#[c]⟩ uc]) I fe fi (fun b o h1 h2 q=>(sb.2 b h1).trans (kk b o h1 h2 q)) ⟨_,bj⟩ ?_ ((sb.2 _ ne).trans cz) (.cons ⟨_,rfl⟩ (.cons ⟨_,rfl⟩ .nil)) (by show 2≤sizeLine;decide)
   obtain⟨o,q,_⟩:=hst
   exact⟨o,(sb.2 it (Ne.symm hei)).trans q⟩
  ·obtain⟨o,q,r⟩:=hst
   exact⟨o,(sb.2 it (Ne.symm hei)).trans q,r⟩
  ·have hb':b=e∨b=it:=by simpa using hb
   have hbl:b < s.heap.objs.size:=by
    rcases hb' with rfl|rfl
    ·exact Heap.lt_size he
    ·obtain⟨o,q,_⟩:=hit;exact Heap.lt_size q
   rw [b_0 (Nat.ne_of_lt hbl)]
   exact(hf b hb).1
 done:=by
  intro X hP hw hK hc i zd s σ H E I hf st hg
  subst hP hw hK
  obtain⟨⟨old,he⟩,hit⟩:=st
  have en:i=z.cps.size:=hg
  refine wpAny_pyNext_enum_endD (at_3 (A:=X.A.in1) (I.ok.hd hc) it z t) he (by rw [←en];exact hit) fun h' eb=>⟨rfl, ?_⟩
  exact Inv.turned2 (tk:=s.toks) I (hf e (by simp)) (hf it (by simp)) fun b o h1 h2 q=>eb b o h2 q
 self:=fun A i s Q E st h=>by
  obtain⟨⟨old,he⟩,_⟩:=st
  exact wpAny_pyIter_enum he h
def q_9(k:Nat):List D→List D
 | []=> []
 |d::ds=> .tup [.int (k:Int),d]::q_9 (k + 1) ds
theorem s_9:∀{ds:List D} {k i:Nat} {d:D},(q_9 k ds)[i]? =some d→∃d',ds[i]? =some d'∧d= .tup [.int ((k + i:Nat):Int),d']
 | [],_,_,_,h=>by simp [q_9] at h
 |x::ds,k,0,d,h=>by simp [q_9] at h;exact⟨x,rfl,h.symm⟩
 |x::ds,k,i + 1,d,h=>by
  obtain⟨d',e1,e2⟩:=s_9 (ds:=ds) (k:=k + 1) (i:=i) (by simpa [q_9] using h)
  exact⟨d',by simpa using e1,by rw [e2,show k + 1 + i=k + (i + 1) by omega]⟩
theorem af_2:∀(ds:List D) (k:Nat),(q_9 k ds).length=ds.length
 | [],_=>rfl
 |_::ds,k=>by simp [q_9,af_2 ds (k + 1)]
def bj_8:D→R (List D)
 | .lst ds=> .ok (q_9 0 ds)
 | .str x=> .ok (q_9 0 (q_7 x))
 |_=> .no
def at_4(f:FE):FI:=fun δ=>(f δ).bind fun w=>bj_8 w.d
section
variable{X:Cx}{EX:EXS}{a:Expr}{f:FE}{elts:List Expr}{x1:Nat}{tp p pos:Pos}
def iEn(K:Frag)(t:TA):TI:=fun σ H Q=>t σ H fun vs H1=>(∃l,vs= [.ref l]∧(∃xs,SqL K H1 l xs)∧Q (enL K l) H1)∨(∃z,vs= [.str z]∧Q (enS z) H1)
theorem ch_7{ta:TA}(hg:Gl X "enumerate")(hm:X.mg "enumerate" =none)(ha:PA X [a] ta)(hs:starEach [a] X.env= [(false,eval a X.env)]:=by rfl):PI X (.Tuple elts x1 tp) (.Call (.Name "enumerate" p) [a] [] pos) (iEn X.K ta):=by
 intro zd s σ H Q I h
 refine Call_ (p_6 I hg hm PyProof.Rows.boot_enumerate (PyProof.Rows.callWith_type1 (thn (ha pos zd s σ H _ I h) fun us s1 ⟨vs,H1,I1,r1,q1⟩=> ?_) hs rfl))
 rcases q1 with⟨l,rfl,⟨xs,hq⟩,q⟩|⟨z,rfl,q⟩
 ·obtain⟨u,rfl,ru⟩:=r1.one
  cases ru
  obtain⟨its,rv,pl,hz⟩:=I1.list hq
  refine call_enumerate_list pl.isList fun h' he hit hsz kk=>wpAny_pyIter_enum he ?_
  refine⟨s1.heap.objs.size + 1, [s1.heap.objs.size + 1,s1.heap.objs.size],_,enL X.K l,H1,rfl,I1.kept (t':=s1.toks) kk,by_6 _ _ l (Nat.succ_ne_self _),⟨⟨_,he⟩,hit⟩,fun b hb=> ?_,q⟩
  have hb':b=s1.heap.objs.size + 1∨b=s1.heap.objs.size:=by simpa using hb
  have hbl:s1.heap.objs.size≤b:=by
   rcases hb' with rfl|rfl
   ·exact Nat.le_succ _
   ·exact Nat.le_refl _
  exact I1.fpOk hbl (I1.hok.fresh hbl)
 ·obtain⟨u,rfl,t,rfl⟩:=r1.one
  refine call_enumerate_str fun h' he hit hsz kk=>wpAny_pyIter_enum he ?_
  refine⟨s1.heap.objs.size + 1, [s1.heap.objs.size + 1,s1.heap.objs.size],_,enS z,H1,rfl,I1.kept (t':=s1.toks) kk,by_7 _ _ z t (Nat.succ_ne_self _),⟨⟨_,he⟩,hit⟩,fun b hb=> ?_,q⟩
  have hb':b=s1.heap.objs.size + 1∨b=s1.heap.objs.size:=by simpa using hb
  have hbl:s1.heap.objs.size≤b:=by
   rcases hb' with rfl|rfl
   ·exact Nat.le_succ _
   ·exact Nat.le_refl _
  exact I1.fpOk hbl (I1.hok.fresh hbl)
theorem ch_8{G:Hp}{l:Addr}{ds:List D}(h:SqL K G l vs)(r:HasL K G vs ds):ItD K G (enL K l) (q_9 0 ds):=fun G' H g1 g i=>by
 refine⟨fun d e=> ?_,fun e=> ?_⟩
 ·obtain⟨d',e1,rfl⟩:=s_9 e
  obtain⟨v,e2,hv⟩:=r.get e1
  refine⟨⟨vs,v,(g1.trans g).seq h,e2⟩,fun x H' y=> ?_⟩
  obtain⟨p,hp,rfl,y⟩:=y
  have:=y vs v ((g1.trans g).seq h) e2
  subst this
  refine⟨_,Step.new g hp _, .tup (SqT.of b_6) (.cons (by rw [Nat.zero_add];exact .int _) (.cons (hv.mono (g1.trans (j_7 (g.free hp) _))) .nil))⟩
 ·rw [af_2] at e
  exact⟨vs,(g1.trans g).seq h,by rw [r.length];exact e⟩
theorem ch_9{G:Hp}(z:Str):ItD K G (enS z) (q_9 0 (q_7 z)):=fun G' H g1 g i=>by
 refine⟨fun d e=> ?_,fun e=> ?_⟩
 ·obtain⟨d',e1,rfl⟩:=s_9 e
  unfold q_7 at e1
  rw [List.getElem?_map] at e1
  cases q:z.cps.toList[i]? with
  |none=>rw [q] at e1;cases e1
  |some c=>
   rw [q] at e1
   cases e1
   have hi:i < z.cps.size:=by
    have:=(List.getElem?_eq_some_iff.mp q).1
    simpa using this
   refine⟨hi,fun x H' y=> ?_⟩
   obtain⟨p,c',hp,rfl,hc,rfl⟩:=y
   have:z.cps.toList[i]? =some c':=by simpa using hc
   rw [q] at this
   cases this
   refine⟨_,Step.new g hp _, .tup (SqT.of b_6) (.cons (by rw [Nat.zero_add];exact .int _) (.cons (.str _) .nil))⟩
 ·rw [af_2] at e
  unfold q_7 at e
  rw [List.length_map] at e
  show i=z.cps.size
  simp at e
  omega
theorem bo_3(hm:X.mg "enumerate" =none)(he:ED X EX a f)(hg:Gl X "enumerate" :=by rfl)(hs:starEach [a] X.env= [(false,eval a X.env)]:=by rfl)(hs1:starEach [a] X.env=(false,eval a X.env)::starEach [] X.env:=by rfl):
  ID X EX (.Tuple elts x1 tp) (.Call (.Name "enumerate" p) [a] [] pos) (at_4 f):=
 PI.imp (ch_7 hg hm (o_9 he z_8 hs1) hs) fun σ H Q ⟨G,δ,g0,s0,o⟩=>by
  refine⟨G,δ,g0,s0, ?_⟩
  unfold at_4 at o
  cases e1:f δ with
  |ok w=>
   rw [e1] at o
   simp only [R.bind_ok] at o
   refine WP.intro fun v G' H' st r=> ?_
   revert r o
   cases w.d with
   |lst ds=>
    intro o r
    cases r with
    |lst h r=>exact .inl ⟨_,rfl,⟨_,st.gh.seq h⟩,o _ G' H' st (ch_8 h r)⟩
   |str z=>
    intro o r
    cases r
    exact .inr ⟨z,rfl,o _ G' H' st (ch_9 z)⟩
   |_=>intro o _;exact False.elim o
  |ex x=>rw [e1] at o;exact o
  |no=>rw [e1] at o;exact o
end
def C3(i j c:Int):Prop:=0≤i∧i.natAbs < 1073741824∧j.natAbs < 1073741824∧0 < c∧c.natAbs < 1073741824
instance (i j c:Int):Decidable (C3 i j c):=by unfold C3;exact inferInstance
section
variable{X:Cx}{EX:EXS}{tg a b c:Expr}{fa:FA}{ta:TA}{p pos:Pos}
end
section
variable{X:Cx}{EX:EXS}{a:Expr}{f:FE}{pos:Pos}
def af_3:List D→Option (List Bool)
 | []=>some []
 | .bl b::ds=>(af_3 ds).map (b:: ·)
 |_=>none
def allD:List D→R W
 | [.lst ds]=>match af_3 ds with
  |some bs=> .ok (.sh (.bl (bs.all id)))
  |none=> .no
 |_=> .no
theorem bd_3{G:Hp}:∀{vs:List V} {ds:List D} {us:List Value} {bs:List Bool},HasL K G vs ds→Vals vs us→af_3 ds=some bs→us=bs.map Value.bool
 |_,_,_,_, .nil,r,e=>by cases r;cases e;rfl
 |_,_,_,_, .cons h t,r,e=>by
  cases r with
  |cons r1 r2=>
   cases h with
   |bl x=>
    cases r1
    simp only [af_3] at e
    obtain⟨zs,q,rfl⟩:=Option.map_eq_some_iff.mp e
    rw [List.map_cons,bd_3 t r2 q]
   |_=>cases e
theorem bs_7(bs:List Bool):(List.range bs.length).all (fun i=>bs.getD i true)=bs.all id:=by
 rw [Bool.eq_iff_iff,List.all_eq_true,List.all_eq_true]
 constructor
 ·intro h b hb
  obtain⟨i,hi,e⟩:=List.getElem_of_mem hb
  have:=h i (List.mem_range.mpr hi)
  simp [hi] at this
  rw [←e]
  exact this
 ·intro h i hi
  have hi:=List.mem_range.mp hi
  simp [hi]
  exact h _ (List.getElem_mem hi)
theorem bs_8(hc:X.calm=true):ab_5 X (.builtin "all") allD:=by
 intro zd s σ H vs us Q I rv q
 obtain⟨EX,G,ds,g,r,o⟩:=q
 cases r with
 |nil=>exact False.elim o
 |cons h t=>
  cases t with
  |cons _ _=>cases h <;> exact False.elim o
  |nil=>
   cases h with
   |lst h r=>
    rename_i l _ _
    simp only [allD] at o
    split at o
    ·rename_i bs e
     obtain⟨u,rfl,ru⟩:=rv.one
     cases ru
     obtain⟨its,rv',pl,hz⟩:=I.list (g.seq h)
     have eb:=bd_3 r rv' e
     subst eb
     have nl:l≠s.heap.objs.size:=fun z=>by
      obtain⟨o',ho,_⟩:=pl.isList
      exact absurd (Heap.lt_size ho) (by rw [←z];exact Nat.lt_irrefl _)
     refine call_all_walk (wpAny_pyIter_list pl.isList ⟨s.heap.objs.size,_,_,_,_,_,fun i=>bs.getD i true,rfl,Walks.list (A:=X.A.in1) (I.ok.hd hc) s.heap.objs.size l nl (bs.map Value.bool).toArray,⟨⟨_,Heap.get?_push_size _ rfl,rfl,rfl⟩, ?_⟩,fun i v s' Q' E' hP hQ=> ?_,fun h' tk kk=> ?_⟩)
     ·exact pl.isList.at fun o z=>Heap.get?_push_of_some _ z
     ·have hP':(bs.map Value.bool)[i]? =some v:=by simpa using hP
      rw [List.getElem?_map] at hP'
      cases q:bs[i]? with
      |none=>rw [q] at hP';cases hP'
      |some b=>
       rw [q] at hP'
       cases hP'
       have:bs.getD i true=b:=by simp [List.getD,q]
       dsimp only at hQ
       rw [this] at hQ
       exact wpAny_truthy_bool hQ
     ·have en:(bs.map Value.bool).toArray.size=bs.length:=by simp
      rw [en,bs_7]
      refine⟨.bl _,H,I.kept (t':=tk) fun b o' z=>kk b o' (by
       have hb:b≠s.heap.objs.size:=Nat.ne_of_lt (Heap.lt_size z)
       simpa using hb) (Heap.get?_push_of_some _ z),rfl,d_9 o g (.bl _)⟩
    ·exact o.elim
   |_=>exact False.elim o
def af_4:D→List D→R W
 | .str x, [.str y]=>match Builtin.Str.occurrences x y 0 x.length 1 with
  |i::_=> .ok (.sh (.int (i:Nat)))
  | []=> .no
 |_,_=> .no
theorem bs_9:MtD X "str.index" af_4:=by
 intro zd s σ H x vs v us Q I rx rv h
 obtain⟨EX,G,d,ds,g,r,rl,o⟩:=h
 refine bo_1 r rl (fun x y e1 e2 e3 e4=> ?_) fun n=> ?_
 ·subst e1 e2 e3 e4
  obtain⟨t,rfl⟩:=rx
  obtain⟨u,rfl,t',rfl⟩:=rv.one
  simp only [af_4] at o
  split at o
  ·rename_i i v_2 e
   exact SC.index e ⟨.int _,H,I.tok _,⟨_,rfl⟩,d_9 o g (.int _)⟩
  ·exact o.elim
 ·have e:af_4 d ds= .no:=by
   unfold af_4
   split
   ·rename_i x y;exact absurd ⟨rfl,rfl⟩ (n x y)
   ·rfl
  rw [e] at o
  exact o.elim
end
section
variable{prog:Program}{w:World}{A:Around}{E:Value→Shared→Prop}{s:Shared}
theorem ac_2{env:Env}{elts:List Expr}{x1}{t:Addr}{items:Array Value}{Q:Unit→Shared→Prop}(hh:A.handled=none)(ht:s.heap.IsList t items)
  (hn:(assignEach elts env).length=items.size) (cy:(assignEach elts env).findIdx? (·.1)=none)
  (h:∀h',Heap.ExtBut s.heap.objs.size s.heap h'→wpAny (model prog w) A (assignInOrder ((assignEach elts env).map (·.2)) items.toList) Q E {s with heap:=h'}):
  wpAny (model prog w) A (assign (.Tuple elts x1 pos) env (.ref t)) Q E s:=by
 rw [assign_Tuple,unpack,hn,cy]
 exact wpAny_bind (wpAny_standAt (wpAny_bind (wpAny_holding (kun_itemsOf hh ht h))))
end
section
variable{X:Cx}{EX:EXS}{pos:Pos}
def gSeq(K:Frag)(n:Nat)(t:TGs):TG:=fun v σ H Q=>∃a xs,v= .ref a∧(SqT K H a xs∨SqL K H a xs)∧xs.length=n∧t xs σ H Q
theorem cs_1{es:List Expr}{k:Nat}{t:TGs}{n:Nat}(hc:X.calm=true)(h:PGs X es t)
  (hn:(assignEach es X.env).length=n:=by rfl) (hst:(assignEach es X.env).findIdx? (·.1)=none:=by rfl):PG X (.Tuple es k pos) (gSeq X.K n t):=by
 intro zd s σ H v u Q I r hw
 obtain⟨a,xs,e1,hq,hl,hw⟩:=hw
 rcases hq with hq|hq
 ·exact bv_2 hc h hn hst zd s σ H v u Q I r ⟨a,xs,e1,hq,hl,hw⟩
 ·subst e1
  cases r
  obtain⟨its,rv,ht,hz⟩:=I.list hq
  refine ac_2 (I.ok.hd hc) ht.isList (by simp [hn,←hl,rv.length]) hst fun h' hx=> ?_
  have I1:Inv X zd σ H {s with heap:=h'}:=I.kept (t':=s.toks) fun b o e=>hx b o (Nat.ne_of_lt (Heap.lt_size e)) e
  exact h zd _ σ H xs _ Q I1 (by simpa using rv) hw
theorem HasS.skip{G:Hp}{σ:Sg}{δ:DE}{i:Nat}(h:HasS K G σ δ)(e:δ[i]? =some none):HasS K G (σ.set i (some v)) δ:=by
 refine⟨by rw [List.length_set];exact h.len,fun j d' e'=> ?_⟩
 obtain⟨v',e1,r'⟩:=h.get j d' e'
 refine⟨v', ?_,r'⟩
 rw [List.getElem?_set_ne]
 ·exact e1
 ·rintro rfl
  rw [e] at e'
  cases e'
end
section
variable{X:Cx}{EX:EXS}
def nonB:D→Bool
 | .non=>true
 |_=>false
def isND(neg:Bool):D→D→R W
 |d, .non=> .ok (.sh (.bl (if neg then !nonB d else nonB d)))
 |_,_=> .no
theorem by_9{G:Hp}{d:D}(r:Has K G v d):decide (v= .non)=nonB d:=by
 cases r <;> rfl
theorem bo_4:OpD X (compareOp .Is) (isND false):=by
 intro zd s σ H x y v u Q I rx ry q
 obtain⟨EX,G,a,b,g,ra,rb,o⟩:=q
 cases rb with
 |non=>exact cp_6 zd s σ H _ _ _ _ Q I rx ry ⟨rfl,by rw [by_9 ra];exact d_9 o g (.bl _)⟩
 |_=>exact False.elim o
theorem bz_0:OpD X (compareOp .IsNot) (isND true):=by
 intro zd s σ H x y v u Q I rx ry q
 obtain⟨EX,G,a,b,g,ra,rb,o⟩:=q
 cases rb with
 |non=>exact ce_9 zd s σ H _ _ _ _ Q I rx ry ⟨rfl,by rw [by_9 ra];exact d_9 o g (.bl _)⟩
 |_=>exact False.elim o
end
section
variable{X:Cx}{EX:EXS}{tg a b:Expr}{f g:FE}{fa:FA}{p pos:Pos}
def ac_3:List D→Option (List Int)
 | []=>some []
 | .int i::ds=>(ac_3 ds).map (i:: ·)
 |_=>none
theorem bt_0{G:Hp}(lo:Int):∀n:Nat,HasL K G ((List.range n).map fun(k:Nat)=>V.int (lo + (k:Int))) (e_5 lo n):=by
 intro n
 unfold e_5
 generalize List.range n=l
 induction l with
 |nil=>exact .nil
 |cons a l ih=>exact .cons (.int _) ih
theorem cx_3{n:Nat}{lo:Int}{acc:Array Value}(h:PySem.ItemsOf (fun i v=>∃t,v= .int (lo + i * 1) t) acc n):Vals ((List.range n).map fun(k:Nat)=>V.int (lo + (k:Int))) acc.toList:=by
 obtain⟨h1,h2⟩:=h
 have all:∀(l:List Value) (k:Nat),(∀(j:Nat) v,l[j]? =some v→∃t,v= .int (lo + ((k + j:Nat):Int)) t)→Vals ((List.range' k l.length).map fun(k:Nat)=>V.int (lo + (k:Int))) l:=by
  intro l
  induction l with
  |nil=>intro k _;exact .nil
  |cons a l ih=>
   intro k h
   rw [List.length_cons,List.range'_succ,List.map_cons]
   refine .cons ?_ (ih (k + 1) fun j v hj=> ?_)
   ·obtain⟨t,e⟩:=h 0 a rfl
    exact⟨t,by rw [e];rfl⟩
   ·obtain⟨t,e⟩:=h (j + 1) v (by simpa using hj)
    exact⟨t,by rw [e,show k + (j + 1)=k + 1 + j by omega]⟩
 have:=all acc.toList 0 fun j v hj=>by
  obtain⟨t,e⟩:=h2 j v (by simpa using hj)
  exact⟨t,by rw [e];simp⟩
 rw [show acc.toList.length=n by simpa using h1] at this
 rw [List.range_eq_range']
 exact this
theorem bd_4{zd:List (Addr×Obj)}{s:Shared}{σ:Sg}{Q:VK}{lo hi:Int}{t u v:Tok}{tk:Nat}(hc:X.calm=true)(I:Inv X zd σ H s)(h1: -(2 ^ 62)≤lo)(h2:lo < 2 ^ 62)(h3: -(2 ^ 62)≤hi)(h4:hi < 2 ^ 62)(hz:(hi - lo).toNat≤16777216)
  (q:∀p,H p=none→Q (.ref p) (upd H p (.lst ((List.range (hi - lo).toNat).map fun(k:Nat)=>V.int (lo + (k:Int)))))):
  wpAny (model X.prog X.w) X.A (call (.type "list") [.ref s.heap.objs.size]) (EP X zd σ Q) X.xe {s with heap:=s.heap.push {cls:= .type "range",data:= .fields #[.int lo t, .int hi u, .int 1 v]},toks:=tk}:=by
 have I1:Inv X zd σ H {s with heap:=s.heap.push {cls:= .type "range",data:= .fields #[.int lo t, .int hi u, .int 1 v]},toks:=tk}:=I.kept fun b o e=>Heap.get?_push_of_some _ e
 have en:Builtin.Range.rangeSize lo hi 1=(((hi - lo).toNat:Nat):Int):=by rw [rangeSize_one];split <;> omega
 refine PySem.call_list_range (I1.ok.hd hc) (IsRange.new ..) (small_one h1 h2 h3 h4) en hz fun h' tk' acc c kk hat it=> ?_
 have rv:=cx_3 it
 have fr:=I1.hok.fresh (Nat.le_refl _)
 refine⟨.ref _,upd H _ (.lst _),I1.laid (t':=tk') kk (Nat.le_refl _) ⟨?_,acc.toList,c,rv,by simpa using hat⟩,rfl,q _ fr⟩
 rw [rv.length,sizeLine_eq]
 have:=it.1
 simp
 omega
def eRng(k:List D→R (List D))(fa:FA):FE:=fun δ=>(fa δ).bind fun as=>(k as).bind fun ds=>if ds.length≤16777216 then .ok (.ow (.lst ds)) else .no
theorem ap_5{p' pos':Pos}(hc:X.calm=true)(hml:X.mg "list" =none)(hm:X.mg "range" =none)(ha:AD X EX [a] fa)(hgl:Gl X "list" :=by rfl)(hg:Gl X "range" :=by rfl)
  (hs:starEach [a] X.env= [(false,eval a X.env)]:=by rfl)
  (hs2:starEach [.Call (.Name "range" p') [a] [] pos'] X.env=(false,eval (.Call (.Name "range" p') [a] [] pos') X.env)::starEach [] X.env:=by rfl):
  ED X EX (.Call (.Name "list" p) [.Call (.Name "range" p') [a] [] pos'] [] pos) (eRng m_7 fa):=by
 intro zd s σ H Q I q
 obtain⟨G,δ,g0,s0,o⟩:=q
 refine Call_ (p_6 I hgl hml PyProof.Rows.boot_list (PyProof.Rows.callWith_type1 ?_ hs2 rfl))
 rw [hs2]
 show wpAny _ _ (spliced ((false,eval (.Call (.Name "range" p') [a] [] pos') X.env)::backTo pos (starEach [] X.env))) _ _ s
 refine Calls.spliced_cons ?_
 refine Call_ (p_6 I hg hm boot_range (PyProof.Rows.callWith_type1 (thn (ha pos' zd s σ H _ I (tDa.seq g0 s0 o (P:=fun vs H1=>∃j G1,Same G1 H1∧vs= [.int j]∧j.natAbs < 4611686018427387904∧j.toNat≤16777216∧Out X.K (EX σ) G1 H1 (.ok (.ow (.lst (e_5 0 j.toNat)))) Q) fun ds vs G' H' _ st r o'=> ?_)) fun us s1 ⟨vs,H1,I1,r1,q1⟩=> ?_) hs rfl))
 ·cases r with
  |nil=>exact False.elim o'
  |cons h t=>
   cases t with
   |cons _ _=>cases h <;> exact False.elim o'
   |nil=>
    cases h with
    |int j=>
     simp only [m_7] at o'
     split at o'
     ·rename_i hj
      simp only [R.bind_ok,s_8] at o'
      split at o'
      ·rename_i hl
       exact⟨j,G',st.gh,rfl,hj,hl,o'⟩
      ·exact o'.elim
     ·exact o'.elim
    |_=>exact False.elim o'
 ·obtain⟨j,G1,sg,rfl,hj,hl,o'⟩:=q1
  obtain⟨u,rfl,t,rfl⟩:=r1.one
  refine call_range_1 ?_
  refine Calls.spliced_nil ?_
  have hl':(j - 0).toNat≤16777216:=by simpa using hl
  refine bd_4 hc I1 (by omega) (by omega) (by omega) (by omega) hl' ?_
  rw [Int.sub_zero]
  exact q_4 o' sg (bt_0 0 _)
def gP(i j:Nat):FG:=fun d Δ=>match d with
 | .tup [a,b]=> .ok ((Δ.set i (.sh a)).set j (.sh b))
 | .lst [a,b]=> .ok ((Δ.set i (.sh a)).set j (.sh b))
 |_=> .no
theorem aw_5{i j k:Nat}{x y:Str}{p1 p2:Pos}(hc:X.calm=true)(hN:X.N.Nodup)(hi:X.N[i]? =some x:=by rfl)(hj:X.N[j]? =some y:=by rfl)(hx:Loc X.env.scope x:=by first|exact Or.inl rfl|exact Or.inr rfl)(hy:Loc X.env.scope y:=by first|exact Or.inl rfl|exact Or.inr rfl)
  (hf:X.fn x=true∨X.env.scope.names.lookup x=some .local:=by first|exact .inl rfl|exact .inr rfl|assumption) (hf2:X.fn y=true∨X.env.scope.names.lookup y=some .local:=by first|exact .inl rfl|exact .inr rfl|assumption)
  (hn:(assignEach [.Name x p1, .Name y p2] X.env).length=2:=by rfl) (hst:(assignEach [.Name x p1, .Name y p2] X.env).findIdx? (·.1)=none:=by rfl)
  (hs:(assignEach [.Name x p1, .Name y p2] X.env).map (·.2)=assign (.Name x p1) X.env::(assignEach [.Name y p2] X.env).map (·.2):=by rfl) (hs2:(assignEach [.Name y p2] X.env).map (·.2)=assign (.Name y p2) X.env::(assignEach [] X.env).map (·.2):=by rfl):
  GD X EX (.Tuple [.Name x p1, .Name y p2] k pos) (gP i j):=
 PG.imp (cs_1 hc (ab_0 (x_3 hN hi hx hf) (ab_0 (x_3 hN hj hy hf2) bm_3 hs2) hs) hn hst) fun v σ H Q ⟨H0,G0,G,Δ,O,d,E,r,q⟩=>by
  cases r with
  |tup h r=>
   cases r with
   |nil=>exact False.elim q
   |cons r1 r=>
    cases r with
    |nil=>exact False.elim q
    |cons r2 r=>
     cases r with
     |nil=>exact⟨_,_,rfl, .inl (Same.tupS E.st.gh h),rfl,_,_,rfl,_,_,rfl,rfl,q _ G H O ((E.put r1).put r2) (Same.refl _)⟩
     |cons _ _=>exact False.elim q
  |lst h r=>
   cases r with
   |nil=>exact False.elim q
   |cons r1 r=>
    cases r with
    |nil=>exact False.elim q
    |cons r2 r=>
     cases r with
     |nil=>exact⟨_,_,rfl, .inr (E.st.gh.seq h),rfl,_,_,rfl,_,_,rfl,rfl,q _ G H O ((E.put r1).put r2) (Same.refl _)⟩
     |cons _ _=>exact False.elim q
  |_=>exact False.elim q
def sUnp(fg:FG)(js:List Nat)(f:FE):FS:=fun Δ=>match f (vsh (gsome js Δ)) with
 | .ok w=>(match fg w.d (gsome js Δ) with
  | .ok Δ'=> .nx Δ'
  |_=> .no)
 | .ex x=> .ex x (gsome js Δ)
 | .no=> .no
theorem bj_9{fg:FG}(js:List Nat){e tg:Expr}(he:ED X EX e f)(hg:GD X EX tg fg)(hs:swapsWithSole [tg] e pos.line X.env=pure false:=by rfl)(hw:swappedStores [tg] e X.env=pure none:=by rfl)
  (h1:(assignEach [tg] X.env).map (·.2)= [assign tg X.env]:=by rfl):SD X EX (.Assign [tg] e pos) (sUnp fg js f):=
 PS.imp (co_7 he hg hs hw h1) fun D σ H ⟨H0,G0,G,Δ,O,E,q⟩=>by
  obtain⟨G1,O1,sg,E1⟩:=E.gsome js
  unfold sUnp at q
  refine⟨G1,vsh (gsome js Δ),E1.st.gh,E1.gsh, ?_⟩
  cases e1:f (vsh (gsome js Δ)) with
  |ok w=>
   simp only [e1] at q
   refine WP.intro fun v G' H' st r=>⟨H0,G0,G',gsome js Δ,O1,w.d,E1.grow st,r, ?_⟩
   cases e2:fg w.d (gsome js Δ) with
   |ok Δ'=>simp only [e2] at q;exact fun σ' G2 H2 O2 E2 s2=>q σ' G2 H2 O2 E2 (sg.trans (st.gg.trans s2))
   |ex x=>simp only [e2] at q;exact q.elim
   |no=>simp only [e2] at q;exact q.elim
  |ex x=>simp only [e1] at q;exact q σ G1 H O1 E1 sg
  |no=>simp only [e1] at q;exact q.elim
end
section
variable{K:Frag}{x qual:Str}{st:Stmt}{f:Addr}{fd:FuncData}{ps:List Str}
theorem Fun.binds1(F:Fun K x qual st f fd)(hl:ps.length=1:=by rfl)(h:∀(kV doc pm:Value) (an:Option Addr) (zn ct a:Value),bindArgs (fnOf x qual (g_1 st) (d_7 st) (a_8 st) .none kV doc pm an zn ct) ⟨[a], []⟩=pure (ps.zip [a]):=by intros;rfl):Binds K fd ps []:=
 F.binds fun kV doc pm an zn ct us hu=>match us,hu.trans hl with| [a],_=>h kV doc pm an zn ct a
theorem Fun.binds2(F:Fun K x qual st f fd)(hl:ps.length=2:=by rfl)(h:∀(kV doc pm:Value) (an:Option Addr) (zn ct a b:Value),bindArgs (fnOf x qual (g_1 st) (d_7 st) (a_8 st) .none kV doc pm an zn ct) ⟨[a,b], []⟩=pure (ps.zip [a,b]):=by intros;rfl):Binds K fd ps []:=
 F.binds fun kV doc pm an zn ct us hu=>match us,hu.trans hl with| [a,b],_=>h kV doc pm an zn ct a b
theorem Fun.binds3(F:Fun K x qual st f fd)(hl:ps.length=3:=by rfl)(h:∀(kV doc pm:Value) (an:Option Addr) (zn ct a b c:Value),bindArgs (fnOf x qual (g_1 st) (d_7 st) (a_8 st) .none kV doc pm an zn ct) ⟨[a,b,c], []⟩=pure (ps.zip [a,b,c]):=by intros;rfl):Binds K fd ps []:=
 F.binds fun kV doc pm an zn ct us hu=>match us,hu.trans hl with| [a,b,c],_=>h kV doc pm an zn ct a b c
theorem Fun.binds4(F:Fun K x qual st f fd)(hl:ps.length=4:=by rfl)(h:∀(kV doc pm:Value) (an:Option Addr) (zn ct a b c d:Value),bindArgs (fnOf x qual (g_1 st) (d_7 st) (a_8 st) .none kV doc pm an zn ct) ⟨[a,b,c,d], []⟩=pure (ps.zip [a,b,c,d]):=by intros;rfl):Binds K fd ps []:=
 F.binds fun kV doc pm an zn ct us hu=>match us,hu.trans hl with| [a,b,c,d],_=>h kV doc pm an zn ct a b c d
end
structure ZApart(z TI TO i1 i2:Addr):Prop where
 TIz:TI≠z
 TOz:TO≠z
 i1z:i1≠z
 i2z:i2≠z
 TITO:TI≠TO
 TIi1:TI≠i1
 TIi2:TI≠i2
 TOi1:TO≠i1
 TOi2:TO≠i2
 i12:i1≠i2
section
variable{X:Cx}{EX:EXS}{a b:Expr}{fa:FA}{elts:List Expr}{x1:Nat}{tp p pos:Pos}
end
def met(is:List Int):List Int:=PyProof.Rows.firstMet (fun i=>is.getD i 0) is.length
def aj_5:D→R W
 | .lst ds=>match ac_3 ds with
  |some is=>if is.length≤4000 then .ok (.sh (.int (met is).length)) else .no
  |none=> .no
 |_=> .no
def ac_4(f:FE):FE:=fun δ=>(f δ).bind fun w=>aj_5 w.d
theorem am_2{G:Hp}:∀{vs:List V} {ds:List D} {us:List Value} {is:List Int},HasL K G vs ds→Vals vs us→ac_3 ds=some is→IntsAre us is
 |_,_,_,_, .nil,r,e=>by cases r;cases e;exact .nil
 |_,_,_,_, .cons h t,r,e=>by
  cases r with
  |cons r1 r2=>
   cases h with
   |int x=>
    obtain⟨tk,rfl⟩:=r1
    simp only [ac_3] at e
    obtain⟨zs,q,rfl⟩:=Option.map_eq_some_iff.mp e
    exact .cons x tk (am_2 t r2 q)
   |_=>cases e
section
variable{X:Cx}{EX:EXS}{a:Expr}{f:FE}{p p' pos pos':Pos}
theorem at_5(hc:X.calm=true)(hml:X.mg "len" =none)(hm:X.mg "set" =none)(ha:ED X EX a f)(hgl:Gl X "len" :=by rfl)(hg:Gl X "set" :=by rfl)
  (hs:starEach [a] X.env=(false,eval a X.env)::starEach [] X.env:=by rfl)
  (hs2:starEach [.Call (.Name "set" p') [a] [] pos'] X.env=(false,eval (.Call (.Name "set" p') [a] [] pos') X.env)::starEach [] X.env:=by rfl) (hpl:(backTo pos (starEach [] X.env)).any (·.1)=false:=by rfl) (cw:(backTo pos' (starEach [] X.env)).any (·.1)=false:=by rfl):
  ED X EX (.Call (.Name "len" p) [.Call (.Name "set" p') [a] [] pos'] [] pos) (ac_4 f):=by
 intro zd s σ H Q I q
 obtain⟨G,δ,g0,s0,o⟩:=q
 refine Call_ (p_6 I hgl hml PySem.boot_len (PyProof.Rows.callWith_builtin1 ?_ hs2 hpl))
 rw [hs2]
 show wpAny _ _ (spliced ((false,eval (.Call (.Name "set" p') [a] [] pos') X.env)::backTo pos (starEach [] X.env))) _ _ s
 refine Calls.spliced_cons ?_
 refine Call_ (p_6 I hg hm PyProof.Rows.boot_set (PyProof.Rows.callWith_type1 ?_ hs cw))
 rw [hs]
 show wpAny _ _ (spliced ((false,eval a X.env)::backTo pos' (starEach [] X.env))) _ _ s
 refine Calls.spliced_cons (thn (ha zd s σ H _ I (tD.seq g0 s0 o (P:=fun v H1=>∃l ds vs is G1,Same G1 H1∧v= .ref l∧SqL X.K G1 l vs∧HasL X.K G1 vs ds∧ac_3 ds=some is∧is.length≤4000∧Out X.K (EX σ) G1 H1 (.ok (.sh (.int (met is).length))) Q) fun w v G' H' _ st r o'=> ?_)) fun u s1 ⟨v,H1,I1,r1,q1⟩=>Calls.spliced_nil ?_)
 ·revert r o'
  cases w.d with
  |lst ds=>
   intro r o'
   cases r with
   |lst h r=>
    simp only [aj_5] at o'
    split at o'
    ·rename_i is e
     split at o'
     ·rename_i hl
      exact⟨_,ds,_,is,G',st.gh,rfl,h,r,e,hl,o'⟩
     ·exact o'.elim
    ·exact o'.elim
  |_=>intro _ o';exact False.elim o'
 ·obtain⟨l,ds,vs,is,G1,sg,rfl,hq,r,e,hl,o'⟩:=q1
  cases r1
  obtain⟨its,rv,pl,hz⟩:=I1.list (sg.seq hq)
  have ia:=am_2 r rv e
  have il:its.length=is.length:=ia.length
  refine PySem.call_set_list (ns:=is) (I1.ok.hd hc) pl.isList (by simpa using ia) (by rw [List.size_toArray,il];show is.length + 1 < 4096;omega) fun h' tk so kk=> ?_
  refine Calls.spliced_nil ?_
  obtain⟨ob,es,ep,t,ho,hex,hd,_,_,hb,hf,hn⟩:=so
  have hb':es.size < 4096:=hb
  refine PySem.call_len_set ho hex hd hf (by omega) ?_
  rw [hn,List.size_toArray,il]
  exact⟨.int _,H1,I1.kept (t':=_) fun b ob hbo=>kk b ob (Heap.lt_size hbo) hbo,⟨_,rfl⟩,d_9 o' sg (.int _)⟩
end
def keyD:D→Option Key
 | .int i=>some (.inl i)
 | .str x=>some (.inr x)
 |_=>none
theorem bz_2{G:Hp}{d:D}{k:Key}(r:Has K G v d)(e:keyD d=some k):v=kV k:=by
 cases r <;> first|(cases e;rfl)|cases e
section
variable{α:Type}
def valA(kvs:List (Key×α))(k:Key):Option α:=(kvs.find? fun kv=>decide (kv.1=k)).map (·.2)
def putA(kvs:List (Key×α))(k:Key)(v:α):List (Key×α):=if(kvs.any fun kv=>decide (kv.1=k))=true then kvs.map (fun kv=>if kv.1=k then(kv.1,v) else kv) else kvs ++ [(k,v)]
def hasA(kvs:List (Key×α))(k:Key):Bool:=(valA kvs k).isSome
end
theorem ci_1(kvs:List (Key×V))(k:Key)(v:V):putK kvs k v=putA kvs k v:=rfl
theorem bo_5{G:Hp}:∀{kvs:List (Key×V)} {kds:List (Key×D)} (k:Key),kvs.map (·.1)=kds.map (·.1)→HasL K G (kvs.map (·.2)) (kds.map (·.2))→(v_3 kvs k).isSome=hasA kds k∧∀d,valA kds k=some d→∃v,v_3 kvs k=some v∧Has K G v d
 | [], [],k,_,_=>⟨rfl,fun d e=>by cases e⟩
 | [],_::_,k,e,_=>by simp at e
 |_::_, [],k,e,_=>by simp at e
 |(x,v)::kvs,(y,d)::kds,k,e,r=>by
  simp only [List.map_cons,List.cons.injEq] at e
  obtain⟨e1,e2⟩:=e
  subst e1
  cases r with
  |cons h r=>
   obtain⟨i1,i2⟩:=bo_5 (kvs:=kvs) (kds:=kds) k e2 r
   by_cases q:x=k
   ·have a1:v_3 ((x,v)::kvs) k=some v:=ab_7 q
    have a2:valA ((x,d)::kds) k=some d:=by unfold valA;rw [List.find?_cons_of_pos (by simpa using q)];rfl
    refine⟨by unfold hasA;rw [a1,a2];rfl,fun d' e'=> ?_⟩
    rw [a2] at e'
    cases e'
    exact⟨v,a1,h⟩
   ·have a1:v_3 ((x,v)::kvs) k=v_3 kvs k:=ab_8 q
    have a2:valA ((x,d)::kds) k=valA kds k:=by unfold valA;rw [List.find?_cons_of_neg (by simpa using q)]
    refine⟨by unfold hasA at i1⊢;rw [a1,a2];exact i1,fun d' e'=> ?_⟩
    rw [a2] at e'
    rw [a1]
    exact i2 d' e'
theorem bd_6{α β:Type}:∀{kvs:List (Key×α)} {kds:List (Key×β)} (k:Key),kvs.map (·.1)=kds.map (·.1)→(kvs.any fun kv=>decide (kv.1=k))=kds.any fun kv=>decide (kv.1=k)
 | [], [],_,_=>rfl
 | [],_::_,k,e=>by simp at e
 |_::_, [],k,e=>by simp at e
 |(x,v)::kvs,(y,d)::kds,k,e=>by
  simp only [List.map_cons,List.cons.injEq] at e
  obtain⟨e1,e2⟩:=e
  subst e1
  rw [List.any_cons,List.any_cons,bd_6 k e2]
theorem ci_2{G:Hp}{kvs:List (Key×V)}{kds:List (Key×D)}(k:Key){d:D}(e:kvs.map (·.1)=kds.map (·.1))(r:HasL K G (kvs.map (·.2)) (kds.map (·.2)))(h:Has K G v d):
  (putK kvs k v).map (·.1)=(putA kds k d).map (·.1)∧HasL K G ((putK kvs k v).map (·.2)) ((putA kds k d).map (·.2)):=by
 rw [ci_1]
 unfold putA
 rw [bd_6 k e]
 split
 ·have all:∀{kvs:List (Key×V)} {kds:List (Key×D)},kvs.map (·.1)=kds.map (·.1)→HasL K G (kvs.map (·.2)) (kds.map (·.2))→
    (kvs.map (fun kv=>if kv.1=k then(kv.1,v) else kv)).map (·.1)=(kds.map (fun kv=>if kv.1=k then(kv.1,d) else kv)).map (·.1)∧HasL K G ((kvs.map (fun kv=>if kv.1=k then(kv.1,v) else kv)).map (·.2)) ((kds.map (fun kv=>if kv.1=k then(kv.1,d) else kv)).map (·.2)):=by
   intro kvs
   induction kvs with
   |nil=>
    intro kds e r
    cases kds with
    |nil=>exact⟨rfl, .nil⟩
    |cons _ _=>simp at e
   |cons p kvs ih=>
    intro kds e r
    cases kds with
    |nil=>simp at e
    |cons q kds=>
     obtain⟨x,u⟩:=p
     obtain⟨y,w⟩:=q
     simp only [List.map_cons,List.cons.injEq] at e
     obtain⟨e1,e2⟩:=e
     subst e1
     cases r with
     |cons h1 r=>
      obtain⟨i1,i2⟩:=ih e2 r
      simp only [List.map_cons]
      by_cases z:x=k
      ·simp only [z,if_true]
       exact⟨by rw [i1], .cons h i2⟩
      ·simp only [z,if_false]
       exact⟨by rw [i1], .cons h1 i2⟩
  exact all e r
 ·refine⟨by rw [List.map_append,List.map_append,e];rfl, ?_⟩
  rw [List.map_append,List.map_append]
  exact r.append (.cons h .nil)
section
variable{X:Cx}{EX:EXS}{pos:Pos}
def bz_3:FE:=fun _=> .ok (.ow (.dic []))
theorem ci_3:ED X EX (.Dict [] [] pos) bz_3:=PE.imp bx_4 fun σ H Q ⟨G,δ,g,s,o⟩=>fun p hp=>
 o (.ref p) (fun b=>b=p) G _ (Step.own g hp _) (fun a e=>by subst e;exact⟨hp,g.free hp,by rw [b_6];simp⟩) (.dict b_6 rfl rfl .nil)
def inK(neg:Bool):D→D→R W
 |d, .dic kvs=>match keyD d with
  |some k=> .ok (.sh (.bl (if neg then !hasA kvs k else hasA kvs k)))
  |none=> .no
 |_,_=> .no
theorem DGet.rd{a:Addr}{kvs:List (Key×V)}{k:Key}(e:Rd H a (.dK kvs)):DGet H a (kV k) (v_3 kvs k):= .inl ⟨kvs,k,e,rfl,rfl⟩
theorem cs_2(hu:X.A.units + 64 < cLine):OpD X (compareOp .In) (inK false):=by
 intro zd s σ H x y v u Q I rx ry q
 obtain⟨EX,G,a,b,g,ra,rb,o⟩:=q
 cases rb with
 |dic h hk r=>
  simp only [inK] at o
  split at o
  ·rename_i k ek
   have ex:=bz_2 ra ek
   subst ex
   cases ry
   refine d_in (by omega) I (DGet.rd (k:=k) (Same.rdD g h)) rx fun s' I'=>⟨.bl _,H,I',rfl, ?_⟩
   rw [(bo_5 k hk r).1]
   exact d_9 o g (.bl _)
  ·exact o.elim
 |_=>exact False.elim o
def bo_6(i:Nat)(js:List Nat)(fk fe:FE):FS:=fun Δ=>match(gsome js Δ)[i]? with
 |some (.ow (.dic kvs))=>(match fe (vsh (gsome js Δ)) with
  | .ok w=>(match fk (vall (gsome js Δ)) with
   | .ok z=>(match keyD z.d with
    |some k=>if kvs.length < 16777216 then .nx ((gsome js Δ).set i (.ow (.dic (putA kvs k w.d)))) else .no
    |none=> .no)
   |_=> .no)
  |_=> .no)
 |_=> .no
theorem ci_4{i:Nat}(js:List Nat){x:Str}{e ie:Expr}{fe fk:FE}{p1 zi pos:Pos}(hu:X.A.units + 64 < cLine)(he:ED X EX e fe)(hi:ED X EX ie fk)(hN:X.N[i]? =some x:=by rfl)(hv:Vis X.env.scope x:=by first|exact Or.inl rfl|exact Or.inr (Or.inl rfl)|exact Or.inr (Or.inr rfl))(hd:(x ==("__debug__" :Str))=false:=by decide)
  (hcd:(x ==("__classdict__" :Str))=false:=by decide) (hs:swapsWith e (some (.Subscript (.Name x p1) ie zi)) pos.line X.env=pure false:=by rfl):
  SD X EX (.Assign [.Subscript (.Name x p1) ie zi] e pos) (bo_6 i js fk fe):=
 PS.imp (cg_3 (by omega) (m_9 hN hv hd hcd) hi he hs) fun D σ H ⟨H0,G0,G,Δ,O,E,q⟩=>by
  obtain⟨G1,O1,sg,E1⟩:=E.gsome js
  unfold bo_6 at q
  generalize gsome js Δ=Δ1 at q E1
  split at q
  ·rename_i kds e1
   obtain⟨v0,s1,t⟩:=E1.ow i _ _ e1 rfl
   obtain⟨a,kvs,rfl,m,hH,hk,rl⟩:=t.dict_of
   refine⟨G1,vsh Δ1,E1.st.gh,E1.gsh, ?_⟩
   cases e2:fe (vsh Δ1) with
   |ex x=>rw [e2] at q;exact q.elim
   |no=>rw [e2] at q;exact q.elim
   |ok w=>
    simp only [e2] at q
    refine WP.intro fun v G' H' st r=> ?_
    have E2:=E1.grow st
    refine⟨.ref a,s1,allG G' H' O1,vall Δ1,E2.aH,E2.gall, ?_⟩
    cases e3:fk (vall Δ1) with
    |ex x=>simp only [e3] at q;exact q.elim
    |no=>simp only [e3] at q;exact q.elim
    |ok z=>
     simp only [e3] at q
     refine WP.intro fun v2 G2 H2 st2 r2=> ?_
     split at q
     ·rename_i k ek
      split at q
      ·rename_i hl
       have e4:=bz_2 r2 ek
       subst e4
       have hH2:H2 a=some (.dK kvs):=st2.hh _ _ (st.hh _ _ hH)
       have hle:kvs.length=kds.length:=by
        have:=congrArg List.length hk
        rwa [List.length_map,List.length_map] at this
       obtain⟨p1,p2⟩:=ci_2 k hk (rl.mono st.gg) r
       exact⟨a,_,rfl,DPut.k hH2 (by rw [hle,sizeLine_eq];exact hl),q σ G' _ _ ((E2.keep st2.hh).writeD s1 m p1 p2) (sg.trans st.gg)⟩
      ·exact q.elim
     ·exact q.elim
  ·exact q.elim
end
section
variable{K:Frag}{H0 H1:HB}{G0 G H:Hp}{σ:Sg}{Δ:SE}{O:OS}
end
section
variable{X:Cx}{EX:EXS}{pos:Pos}
end
section
variable{X:Cx}{EX:EXS}{pos:Pos}
end
section
variable{X:Cx}{EX:EXS}{a b:Expr}{fa:FA}{p pos:Pos}
end
section
variable{K:Frag}{G H:Hp}
theorem OwL.append:∀{vs us:List V} {ts rs:List Tn} {S1 S2 S:AS},OwL K G H vs ts S1→OwL K G H us rs S2→(∀b,S1 b→S2 b→False)→(∀b,S1 b→S b)→(∀b,S2 b→S b)→OwL K G H (vs ++ us) (ts ++ rs) S
 |_,_,_,_,_,_,_, .nil,r,_,_,i2=>r.mono (Same.refl _) (fun _ _ _ q=>q) i2
 |_,_,_,_,S1,S2,S, .cons (S1:=Sa) (S2:=Sb) h r dj s1 s2,q,d,i1,i2=>
  .cons (S2:=fun b=>Sb b∨S2 b) h (OwL.append r q (fun b z1 z2=>d b (s2 b z1) z2) (fun b z=> .inl z) fun b z=> .inr z) (fun b z1 z2=>by
   rcases z2 with z2|z2
   ·exact dj b z1 z2
   ·exact d b (s1 b z1) z2) (fun b z=>i1 b (s1 b z)) fun b z=>by
   rcases z with z|z
   ·exact i1 b (s2 b z)
   ·exact i2 b z
end
section
variable{α:Type}
end
section
variable{K:Frag}{G H:Hp}
end
def Sl.mk(b:Bool)(t:Tn):Sl:=if b then .lt t else .tr t
section
variable{X:Cx}{EX:EXS}{pos:Pos}
end
section
variable{X:Cx}{EX:EXS}{pos:Pos}
end
section
variable{X:Cx}{EX:EXS}{pos:Pos}
end
section
variable{X:Cx}{EX:EXS}{pos:Pos}
def bd_7(i j:Nat):FS:=fun Δ=>match Δ[j]? with
 |some (.ow (.lst ds))=>(match ds[ds.length - 1]? with
  |some d=> .nx ((Δ.set j (.ow (.lst ds.dropLast))).set i (.sh d))
  |none=> .no)
 |_=> .no
theorem HasL.dropLast{G:Hp}{ds:List D}(h:HasL K G vs ds):HasL K G vs.dropLast ds.dropLast:=by
 rw [List.dropLast_eq_take,List.dropLast_eq_take,h.length]
 exact h.take _
theorem ci_5{i j:Nat}{x y:Str}{p1 p2 zh zf:Pos}(hN:X.N.Nodup)(hi:X.N[i]? =some x:=by rfl)(hx:Loc X.env.scope x:=by first|exact Or.inl rfl|exact Or.inr rfl)(hj:X.N[j]? =some y:=by rfl)(hv:Vis X.env.scope y:=by first|exact Or.inl rfl|exact Or.inr (Or.inl rfl)|exact Or.inr (Or.inr rfl))(hd:(y ==("__debug__" :Str))=false:=by decide)
  (hcd:(y ==("__classdict__" :Str))=false:=by decide) (hs:swapsWith (.Call (.Attribute (.Name y p1) "pop" zh) [] [] zf) (some (.Name x p2)) pos.line X.env=pure false:=by rfl)
  (hf:X.fn x=true∨X.env.scope.names.lookup x=some .local:=by first|exact .inl rfl|exact .inr rfl|assumption)
  (aa:attributeBase (.Name y p1) "pop" X.env (eval (.Name y p1) X.env)=eval (.Name y p1) X.env:=by rfl) (af:(zh.endLine ==zf.line)=true:=by rfl):
  SD X EX (.Assign [.Name x p2] (.Call (.Attribute (.Name y p1) "pop" zh) [] [] zf) pos) (bd_7 i j):=
 PS.imp (bv_3 hN hi hx (cq_6 PySem.F.plainAttrs_list PySem.F.slot_list_pop PySem.F.type_list_pop cq_7 (m_9 hj hv hd hcd) aa af) hs hf) fun D σ H ⟨H0,G0,G,Δ,O,E,q⟩=>by
  unfold bd_7 at q
  split at q
  ·rename_i ds e1
   obtain⟨v0,s1,t⟩:=E.ow j _ _ e1 rfl
   obtain⟨a,vs,rfl,m,hH,rl⟩:=t.list_of
   split at q
   ·rename_i d e2
    rw [←rl.length] at e2
    obtain⟨v,e3,hv⟩:=rl.get e2
    exact⟨.ref a,s1, .inl ⟨rfl,_,SqL.of hH⟩,a,vs,v,rfl,rfl,hH,e3,q _ G _ _ ((E.writeL s1 m rl.dropLast).put hv) (Same.refl _)⟩
   ·exact q.elim
  ·exact q.elim
theorem HasL.eraseIdx{G:Hp}:∀{vs:List V} {ds:List D} (n:Nat),HasL K G vs ds→HasL K G (vs.eraseIdx n) (ds.eraseIdx n)
 |_,_,_, .nil=> .nil
 |_,_,0, .cons _ r=>r
 |_,_,n + 1, .cons h r=> .cons h (HasL.eraseIdx n r)
theorem HasL.ofFl{G G':Hp}:∀{vs:List V} {ds:List D},HasL K G vs ds→ds.all flatD=true→HasL K G' vs ds
 |_,_, .nil,_=> .nil
 |_,_, .cons h r,f=>by
  rw [List.all_cons,Bool.and_eq_true] at f
  exact .cons (h.ofFl f.1) (HasL.ofFl r f.2)
end
def bk_1(n:Nat)(ds:List D)(t:Tn):SE:=(start3 n ds).set ds.length (.lt t)
def cm_7(n:Nat)(g:FS)(ds:List D)(t:Tn):Option Tn:=match g (bk_1 n ds t) with
 | .nx Δ=>(match Δ[ds.length]? with
  |some (.lt t')=>some t'
  |_=>none)
 |_=>none
def spM(K:Frag)(n:Nat)(F:List D→Tn→Option Tn):Sp:=fun vs H Q _=>∃vs0 a0,vs=vs0 ++ [.ref a0]∧vs0.length=n∧∃G ds t S t',Same G H∧HasL K G vs0 ds∧Ow K G H (.ref a0) t S∧(∀a,S a→G a=none∧H a≠none)∧F ds t=some t'∧
 ∀G' H' S',MStep2 S G H G' H'→(∀a,S' a→(S a∨H a=none)∧G' a=none∧H' a≠none)→Ow K G' H' (.ref a0) t' S'→Q .non H'
theorem bt_1{G H h0:Hp}{vs us:List V}{ds:List D}{N:List Str}{b:Nat→Addr}(g:Same G H)(i0:Same h0 H)(r:HasL K G vs ds)(hl:(vs ++ us).length≤N.length):Ev K ⟨h0,b⟩ G G H (h_7 N (vs ++ us)) (start3 N.length ds) (fun _ _=>False):=by
 have key:∀(i:Nat) (s:Sl),(start3 N.length ds)[i]? =some s→(∃d,s= .sh d∧ds[i]? =some d)∨s= .no:=fun i s e=>by
  unfold start3 at e
  by_cases hi:i < ds.length
  ·rw [List.getElem?_append_left (by rw [List.length_map];exact hi),List.getElem?_map] at e
   obtain⟨d,e1,e2⟩:=Option.map_eq_some_iff.mp e
   exact .inl ⟨d,e2.symm,e1⟩
  ·rw [List.getElem?_append_right (by rw [List.length_map];omega),List.getElem?_replicate] at e
   split at e
   ·cases e;exact .inr rfl
   ·cases e
 refine⟨⟨i0,g,Same.refl _,fun _ n _=>n⟩, ?_,fun i d e=> ?_,fun i z d e zo=> ?_,fun _ _ ha=>ha.elim,fun _ _ _ ha=>ha.elim,fun i d e=> ?_,fun i d e=> ?_⟩
 ·unfold h_7 start3
  have:=r.length
  simp only [List.length_append,List.length_map,List.length_replicate] at hl⊢
  omega
 ·rcases key i _ e with⟨d',q,q2⟩|q
  ·cases q
   obtain⟨v,e1,h⟩:=r.get q2
   refine⟨v, ?_,h⟩
   unfold h_7
   have hi:i < vs.length:=(List.getElem?_eq_some_iff.mp e1).1
   rw [List.getElem?_append_left (by rw [List.length_map,List.length_append];omega),List.getElem?_map,List.getElem?_append_left hi,e1]
   rfl
  ·cases q
 ·rcases key i _ e with⟨d',q,_⟩|q <;> (subst q;cases zo)
 ·rcases key i _ e with⟨d',q,_⟩|q <;> cases q
 ·rcases key i _ e with⟨d',q,_⟩|q <;> cases q
open Classical in
theorem fn_M{c:Bool}{w:World}{x qual:Str}{st:Stmt}{f:Addr}{N ps:List Str}{k n:Nat}{g:FS}(F:Fun K x qual st f fd)(S:FnScope N ps (a_8 st))(hn:ps.length=n + 1)(hle:ps.length≤N.length)
  (zj:∀(zn:Value) (A:Around) (outer:List Env) (s:Shared) (H:Hp) (E:XK),RoomC c k (A.deeper (envOfC qual (a_8 st) s.heap.objs.size f zn))→
   BD (cxN c P w K mg base N qual (a_8 st) f zn A outer s H E) (fun _=>EXof K E) (d_7 st) g):FnX P w K mg base c (k + 1) f fd ps (spM K n (cm_7 N.length g)):=by
 refine Fun.okX F S (fun vs H Q E h=> ?_) fun zn A outer s H vs Q E hr h=>⟨_,zj zn A outer s H E hr, ?_⟩
 ·obtain⟨vs0,a0,rfl,hl,_⟩:=h
  rw [List.length_append,hl,hn];rfl
 obtain⟨vs0,a0,rfl,hl,G,ds,t,S0,t',g0,r,tw,out,ef,q⟩:=h
 have i0:Same (fun b=>if S0 b then none else H b) H:=fun b o e=>by
  simp only at e
  split at e
  ·cases e
  ·exact e
 have E0:=bt_1 (N:=N) (b:=fun _=>a0) (us:= [.ref a0]) g0 i0 r (by rw [List.length_append,hl];show n + 1≤_;omega)
 have zk:ds.length=n:=by rw [←r.length];exact hl
 have hs:(h_7 N (vs0 ++ [.ref a0]))[ds.length]? =some (some (.ref a0)):=by
  unfold h_7
  rw [List.getElem?_append_left (by rw [List.length_map,List.length_append,hl,zk];exact Nat.lt_succ_self _),List.getElem?_map,List.getElem?_append_right (by rw [hl,zk];exact Nat.le_refl _),hl,zk,Nat.sub_self]
  rfl
 have E1:=E0.putO (i:=ds.length) (z:= .lt t) (S:=S0) (fun a ha=>⟨by simp only;rw [if_pos ha],(out a ha).1,(out a ha).2⟩) rfl (fun _ z=>by cases z) tw (fun j a ha=>ha.elim) (fun _ _=>rfl)
 rw [s_7 hs] at E1
 refine⟨⟨fun b=>if S0 b then none else H b,fun _=>a0⟩,G,G,_,_,E1, ?_⟩
 unfold cm_7 at ef
 have e2:(start3 N.length ds).set ds.length (.lt t)=bk_1 N.length ds t:=rfl
 rw [e2]
 cases e:g (bk_1 N.length ds t) with
 |nx Δ=>
  rw [e] at ef
  simp only at ef
  split at ef
  ·rename_i t2 e3
   cases ef
   intro σ G' H' O E' _
   obtain⟨v,s1,t3⟩:=E'.ow _ _ _ e3 rfl
   have s2:=E'.lt _ _ e3
   rw [s1] at s2
   cases s2
   refine q G' H' (O ds.length) ⟨fun b o nb z=>E'.st.hh b o (by simp only;rw [if_neg nb];exact z),E'.st.gh,E'.st.gg,fun b nb z1 z2=>E'.st.nw b z1 (by simp only;rw [if_neg nb];exact z2)⟩ (fun a ha=> ?_) t3
   obtain⟨k1,k2,k3⟩:=E'.out _ a ha
   refine⟨?_,k1,k3⟩
   simp only at k2
   split at k2
   ·rename_i z;exact .inl z
   ·exact .inr k2
  ·cases ef
 |rt w=>rw [e] at ef;cases ef
 |ex x Δ=>rw [e] at ef;cases ef
 |bk Δ=>rw [e] at ef;cases ef
 |ct Δ=>rw [e] at ef;cases ef
 |no=>rw [e] at ef;cases ef
section
variable{X:Cx}{EX:EXS}{e:Expr}{es:List Expr}{x:Str}{pp pos:Pos}{c:Bool}{k k':Nat}{ps:List Str}
end
def OFld(K:Frag)(cs:List Str)(f:Str):Prop:=∀c,cs.contains c=true→∀C,ClsAt K c C→Cls K C∧NoAttr K C f
theorem OFld.nil{f:Str}:OFld K [] f:=fun c h=>by cases h
theorem ClsAt.same{c:Str}{C C':Addr}(a:ClsAt K c C)(b:ClsAt K c C'):C'=C:=by
 unfold ClsAt at a b
 rw [a] at b
 injection b with b
 injection b with b
 injection b with b
 exact b.symm
theorem OFld.one{c:Str}{C:Addr}{cs:List Str}{f:Str}(a:ClsAt K c C)(k:Cls K C)(n:NoAttr K C f)(r:OFld K cs f):OFld K (c::cs) f:=fun c' h C' a'=>by
 rw [List.contains_cons,Bool.or_eq_true] at h
 rcases h with h|h
 ·have e:=beq_iff_eq.mp h
  subst e
  rw [a.same a']
  exact⟨k,n⟩
 ·exact r c' h C' a'
def eFld(cs:List Str)(f:Str)(fo:FE):FE:=fun δ=>(fo δ).bind fun w=>match w.d with
 | .obj c ns vs=>if cs.contains c then(match(ns.zip vs).lookup f with
  |some d=> .ok (.sh d)
  |none=> .no) else .no
 |_=> .no
theorem aj_6{G:Hp}{f:Str}:∀{ns:List Str} {us:List V} {vs:List D},HasL K G us vs→ns.length=us.length→(∀d,(ns.zip vs).lookup f=some d→∃v,(ns.zip us).lookup f=some v∧Has K G v d)∧(ns.contains f=false→(ns.zip us).lookup f=none)
 | [],_,_,_,_=>⟨fun d e=>(by cases e),fun _=>rfl⟩
 |n::ns, [],_,_,e=>by simp at e
 |n::ns,u::us,_, .cons h r,e=>by
  obtain⟨i1,i2⟩:=aj_6 (f:=f) (ns:=ns) r (by simpa using e)
  refine⟨fun d q=> ?_,fun q=> ?_⟩
  ·rw [List.zip_cons_cons,List.lookup_cons] at q⊢
   cases hb:f ==n with
   |true=>simp only [hb] at q⊢;cases q;exact⟨u,rfl,h⟩
   |false=>simp only [hb] at q⊢;exact i1 d q
  ·rw [List.contains_cons,Bool.or_eq_false_iff] at q
   rw [List.zip_cons_cons,List.lookup_cons]
   simp only [q.1]
   exact i2 q.2
section
variable{X:Cx}{EX:EXS}{e:Expr}{pos:Pos}
theorem w_1{cs:List Str}{f:Str}{fo:FE}(k:OFld X.K cs f)(he:ED X EX e fo)(hb:attributeBase e f X.env (eval e X.env)=eval e X.env:=by rfl):ED X EX (.Attribute e f pos) (eFld cs f fo):=
 PE.imp (cp_9 he hb) fun σ H Q ⟨G,δ,g0,s0,o⟩=>tD.seq g0 s0 o fun w v G1 H1 _ st r o'=>by
  revert o' r
  cases w.d with
  |obj c ns vs=>
   intro r o'
   simp only at o'
   split at o'
   ·rename_i hc
    split at o'
    ·rename_i d ed
     cases r with
     |obj hC hh hl rl=>
      obtain⟨v1,e1,h1⟩:=(aj_6 (f:=f) rl hl).1 d ed
      obtain⟨kc,kn⟩:=k c hc _ hC
      exact⟨_,_,_,_,v1,rfl,st.gh _ _ hh,kc,kn,e1,d_9 o' st.gh h1⟩
    ·exact o'.elim
   ·exact o'.elim
  |_=>intro _ o';exact False.elim o'
end
structure MethD(P:Program)(w:World)(K:Frag)(mg:Str→Option Value)(base:Heap)(cc:Bool)(k n:Nat)(m c:Str)(F:List D→R W):Prop where
 ex:∃C f fd ps,ClsAt K c C∧Cls K C∧Meth K C m f∧FnX P w K mg base cc k f fd ps (spX K (n + 1) F)∧Binds K fd ps []
def MethT(P:Program)(w:World)(K:Frag)(mg:Str→Option Value)(base:Heap)(cc:Bool)(k n:Nat)(m:Str)(tb:List (Str×(List D→R W))):Prop:=∀c F,tb.lookup c=some F→MethD P w K mg base cc k n m c F
theorem MethT.nil{w:World}{cc:Bool}{k n:Nat}{m:Str}:MethT P w K mg base cc k n m []:=fun c F e=>by cases e
theorem FnX.up{w:World}{c:Bool}{j k:Nat}{f:Addr}{ps:List Str}{sp:Sp}(F:FnX P w K mg base c j f fd ps sp)(h:j≤k):FnX P w K mg base c k f fd ps sp:=
 ⟨F.len,fun A outer s H args us vs Q E hr=>F.run A outer s H args us vs Q E (hr.mono h)⟩
theorem MethT.one{w:World}{cc:Bool}{j k n:Nat}{m c:Str}{F:List D→R W}{tb:List (Str×(List D→R W))}(d:MethD P w K mg base cc j n m c F)(hj:j≤k)(r:MethT P w K mg base cc k n m tb):MethT P w K mg base cc k n m ((c,F)::tb):=fun c' F' e=>by
 rw [List.lookup_cons] at e
 cases hb:c' ==c with
 |true=>
  simp only [hb] at e
  cases e
  have:=beq_iff_eq.mp hb
  subst this
  obtain⟨C,f,fd,ps,a1,a2,a3,a4,a5⟩:=d.ex
  exact⟨C,f,fd,ps,a1,a2,a3,a4.up hj,a5⟩
 |false=>simp only [hb] at e;exact r c' F' e
def j_6(m:Str)(n:Nat)(tb:List (Str×(List D→R W)))(fo:FE)(fa:FA):FE:=fun δ=>(fo δ).bind fun w=>match w.d with
 | .obj c ns vs=>if ns.contains m then .no else match tb.lookup c with
  |some F=>(fa δ).bind fun ds=>if ds.length=n then F (.obj c ns vs::ds) else .no
  |none=> .no
 |_=> .no
section
variable{X:Cx}{EX:EXS}{e o:Expr}{es:List Expr}{pos zh:Pos}{cc:Bool}{k k' n:Nat}{m:Str}{tb:List (Str×(List D→R W))}{fo:FE}{fa:FA}
def bz_4(X:Cx)(EX:EXS)(cc:Bool)(k:Nat)(m:Str)(ta:TE)(t:TA):TE:=fun σ H Q=>ta σ H fun x H1=>∃a C dx fs f fd ps sp,x= .ref a∧H1 a=some (.ins C dx fs)∧fs.lookup m=none∧Cls X.K C∧Meth X.K C m f∧
 FnX X.prog X.w X.K X.mg X.base cc k f fd ps sp∧Binds X.K fd ps []∧t σ H1 fun vs H2=>sp (.ref a::vs) H2 Q (EXE X.K (EX σ))
theorem ci_6{pl:Sem Bool}{ta:TE}{t:TA}(he:PE X o ta)(hr:RoomC cc k X.A)(lk:Lk X EX)(ha:PA X (e::es) t)
  (hst:starEach (e::es) X.env=(false,eval e X.env)::starEach es X.env) (hpl:(backTo pos (starEach es X.env)).any (·.1)=false)
  (ht:eval (.Call (.Attribute o m zh) (e::es) [] pos) X.env=(do
   let ov←eval o X.env
   standAt zh.atName
   let(f,first)←holding [ov] (getMethod ov m pl)
   callWith pos f first (backTo pos (starEach (e::es) X.env)) (backToKw pos (keywordEach [] X.env)))):
  PE X (.Call (.Attribute o m zh) (e::es) [] pos) (bz_4 X EX cc k m ta t):=by
 intro zd s σ H Q I h
 refine methodCall_KW (pl:=pl) (thn (he zd s σ H _ I h) fun u s1 ⟨x,H1,I1,rx,a,C,dx,fs,f,fd,ps,sp,ex,ea,l,c,hm,F,hb,q⟩=> ?_) ht
 subst ex
 obtain rfl:u=Value.ref a:=rx
 refine al_2 I1 ea c hm l ?_
 refine callWith_K (first:= [.ref a]) (h₀:=X.base) I.ok.mod.kin hm.kp (thn (ha pos zd s1 σ H1 _ I1 q) fun us s2 ⟨vs,H2,I2,r,q2⟩=>⟨I2.kIn, ?_⟩) hst hpl
 exact aj_3 (us:= .ref a::us) (vs:= .ref a::vs) F hr hb lk I2 (.cons rfl r) q2
theorem bz_5{pl:Sem Bool}{ta:TE}(he:PE X o ta)(hr:RoomC cc k X.A)(lk:Lk X EX)
  (ht:eval (.Call (.Attribute o m zh) [] [] pos) X.env=(do
   let ov←eval o X.env
   standAt zh.atName
   let(f,first)←holding [ov] (getMethod ov m pl)
   callWith pos f first (backTo pos (starEach [] X.env)) (backToKw pos (keywordEach [] X.env)))):
  PE X (.Call (.Attribute o m zh) [] [] pos) (bz_4 X EX cc k m ta tNil):=by
 intro zd s σ H Q I h
 refine methodCall_KW (pl:=pl) (thn (he zd s σ H _ I h) fun u s1 ⟨x,H1,I1,rx,a,C,dx,fs,f,fd,ps,sp,ex,ea,l,c,hm,F,hb,q⟩=> ?_) ht
 subst ex
 obtain rfl:u=Value.ref a:=rx
 refine al_2 I1 ea c hm l ?_
 exact callWith_K0 (first:= [.ref a]) I1.kIn hm.kp (aj_3 (us:= [.ref a]) (vs:= [.ref a]) F hr hb lk I1 (.cons rfl .nil) q)
theorem cs_3{σ:Sg}{Q:VK}(hK:X.K=K)(T:MethT X.prog X.w X.K X.mg X.base cc k n m tb)(q:tD K EX (j_6 m n tb fo fa) σ H Q):bz_4 X EX cc k m (tD K EX fo) (tDa K EX fa) σ H Q:=by
 subst hK
 obtain⟨G,δ,g0,s0,o⟩:=q
 refine tD.seq g0 s0 o fun w v G1 H1 _ st r o'=> ?_
 revert o' r
 cases w.d with
 |obj c ns vs=>
  intro r o'
  simp only at o'
  split at o'
  ·exact o'.elim
  ·rename_i hn
   split at o'
   ·rename_i F ef
    cases r with
    |obj hC hh hl rl=>
     rename_i a0 C0 dx0 us0
     obtain⟨C,f,fd,ps,a1,a2,a3,a4,a5⟩:=(T c F ef).ex
     have:=a1.same hC
     subst this
     refine⟨_,_,_,_,f,fd,ps,_,rfl,st.gh _ _ hh,(aj_6 (f:=m) rl hl).2 (by simpa using hn),a2,a3,a4,a5, ?_⟩
     refine tDa.seq st.gh (s0.mono st.gg) o' fun ds us G' H' _ st' r' o2=> ?_
     split at o2
     ·rename_i zk
      refine⟨by rw [List.length_cons,r'.length,zk],G', .obj c ns vs::ds,st'.gh, .cons (Has.mono st'.gg (.obj hC hh hl rl)) r', ?_⟩
      cases q:F (.obj c ns vs::ds) with
      |ok w=>rw [q] at o2;exact o2
      |ex x=>rw [q] at o2;exact EXof.in o2
      |no=>rw [q] at o2;exact o2.elim
     ·exact o2.elim
   ·exact o'.elim
 |_=>intro _ o';exact False.elim o'
theorem u_1{pl:Sem Bool}(T:MethT X.prog X.w X.K X.mg X.base cc k n m tb)(hr:RoomC cc k' X.A)(lk:Lk X EX)(he:ED X EX o fo)(ha:AD X EX (e::es) fa)(hk:k≤k':=by decide)
  (hst:starEach (e::es) X.env=(false,eval e X.env)::starEach es X.env:=by rfl) (hpl:(backTo pos (starEach es X.env)).any (·.1)=false:=by rfl)
  (ht:eval (.Call (.Attribute o m zh) (e::es) [] pos) X.env=(do
   let ov←eval o X.env
   standAt zh.atName
   let(f,first)←holding [ov] (getMethod ov m pl)
   callWith pos f first (backTo pos (starEach (e::es) X.env)) (backToKw pos (keywordEach [] X.env))):=by rfl):ED X EX (.Call (.Attribute o m zh) (e::es) [] pos) (j_6 m n tb fo fa):=
 PE.imp (ci_6 he (hr.mono hk) lk ha hst hpl ht) fun _ _ _ q=>cs_3 rfl T q
theorem am_3{pl:Sem Bool}(T:MethT X.prog X.w X.K X.mg X.base cc k 0 m tb)(hr:RoomC cc k' X.A)(lk:Lk X EX)(he:ED X EX o fo)(hk:k≤k':=by decide)
  (ht:eval (.Call (.Attribute o m zh) [] [] pos) X.env=(do
   let ov←eval o X.env
   standAt zh.atName
   let(f,first)←holding [ov] (getMethod ov m pl)
   callWith pos f first (backTo pos (starEach [] X.env)) (backToKw pos (keywordEach [] X.env))):=by rfl):ED X EX (.Call (.Attribute o m zh) [] [] pos) (j_6 m 0 tb fo aNil):=
 PE.imp (bz_5 he (hr.mono hk) lk ht) fun σ H Q ⟨G,δ,g0,s0,q⟩=>tD.seq g0 s0 q fun w v G1 H1 _ st r o'=>by
  revert o' r
  cases w.d with
  |obj c ns vs=>
   intro r o'
   simp only at o'
   split at o'
   ·exact o'.elim
   ·rename_i hn
    split at o'
    ·rename_i F ef
     cases r with
     |obj hC hh hl rl=>
      obtain⟨C,f,fd,ps,a1,a2,a3,a4,a5⟩:=(T c F ef).ex
      have:=a1.same hC
      subst this
      refine⟨_,_,_,_,f,fd,ps,_,rfl,st.gh _ _ hh,(aj_6 (f:=m) rl hl).2 (by simpa using hn),a2,a3,a4,a5, ?_⟩
      have o2:Out X.K (EX σ) G1 H1 (F [.obj c ns vs]) Q:=o'
      refine⟨rfl,G1, [.obj c ns vs],st.gh, .cons (.obj hC hh hl rl) .nil, ?_⟩
      cases q:F [.obj c ns vs] with
      |ok w=>rw [q] at o2;exact o2
      |ex x=>rw [q] at o2;exact EXof.in o2
      |no=>rw [q] at o2;exact o2.elim
    ·exact o'.elim
  |_=>intro _ o';exact False.elim o'
end
def unT:List Tn→Option (List D)
 | []=>some []
 | .sh d::r=>(unT r).map (d:: ·)
 |_=>none
theorem bd_8:∀{ts:List Tn} {ds:List D},unT ts=some ds→ts=ds.map .sh
 | [],_,e=>by cases e;rfl
 |t::r,ds,e=>by
  cases t with
  |sh d=>
   simp only [unT] at e
   cases q:unT r with
   |none=>rw [q] at e;cases e
   |some l=>
    rw [q] at e
    cases e
    rw [bd_8 q]
    rfl
  |_=>cases e
def aw_8(n:Nat)(c:Str)(ds:List D):SE:= .lt (.obj c [] [])::(ds.map Sl.sh ++ List.replicate (n - (ds.length + 1)) .no)
def at_6(n:Nat)(c:Str)(g:FS)(ds:List D):R (List Str×List D):=match g (aw_8 n c ds) with
 | .nx Δ=>(match Δ[(0:Nat)]? with
  |some (.lt (.obj c' ns ts))=>if c'=c then(match unT ts with
   |some rs=> .ok (ns,rs)
   |none=> .no) else .no
  |_=> .no)
 | .ex x _=> .ex x
 |_=> .no
def spI(K:Frag)(C:Addr)(n:Nat)(F:List D→R (List Str×List D)):Sp:=fun vs H Q E=>∃x dx vs0 Hq G ds,vs= .ref x::vs0∧vs0.length=n∧Hq x=none∧Same Hq H∧H x=some (.ins C dx [])∧Same G Hq∧HasL K G vs0 ds∧
 (match F ds with
 | .ok p=>∀G' H' us dx',Step G Hq G' H'→G' x=none→H' x=some (.ins C dx' (p.1.zip us))→p.1.length=us.length→HasL K G' us p.2→Q .non H'
 | .ex e=>(EXof K E).p e G Hq
 | .no=>False)
theorem bt_2{G H h0:Hp}{v0:V}{ds:List D}{N:List Str}{b:Nat→Addr}(g:Same G H)(i0:Same h0 H)(r:HasL K G vs ds)(hl:vs.length + 1≤N.length):Ev K ⟨h0,b⟩ G G H (h_7 N (v0::vs)) (.no::(ds.map Sl.sh ++ List.replicate (N.length - (ds.length + 1)) .no)) (fun _ _=>False):=by
 have key:∀(i:Nat) (s:Sl),(Sl.no::(ds.map Sl.sh ++ List.replicate (N.length - (ds.length + 1)) .no))[i]? =some s→(∃j d,i=j + 1∧s= .sh d∧ds[j]? =some d)∨s= .no:=fun i s e=>by
  cases i with
  |zero=>exact .inr (by simpa using e.symm)
  |succ i=>
   rw [List.getElem?_cons_succ] at e
   by_cases hi:i < ds.length
   ·rw [List.getElem?_append_left (by rw [List.length_map];exact hi),List.getElem?_map] at e
    obtain⟨d,e1,e2⟩:=Option.map_eq_some_iff.mp e
    exact .inl ⟨i,d,rfl,e2.symm,e1⟩
   ·rw [List.getElem?_append_right (by rw [List.length_map];omega),List.getElem?_replicate] at e
    split at e
    ·cases e;exact .inr rfl
    ·cases e
 refine⟨⟨i0,g,Same.refl _,fun _ n _=>n⟩, ?_,fun i d e=> ?_,fun i z d e zo=> ?_,fun _ _ ha=>ha.elim,fun _ _ _ ha=>ha.elim,fun i d e=> ?_,fun i d e=> ?_⟩
 ·unfold h_7
  have:=r.length
  simp only [List.length_append,List.length_map,List.length_replicate,List.length_cons] at hl⊢
  omega
 ·rcases key i _ e with⟨j,d',rfl,q,q2⟩|q
  ·cases q
   obtain⟨v,e1,h⟩:=r.get q2
   refine⟨v, ?_,h⟩
   unfold h_7
   have hi:j < vs.length:=(List.getElem?_eq_some_iff.mp e1).1
   rw [List.getElem?_append_left (by rw [List.length_map,List.length_cons];omega),List.getElem?_map,List.getElem?_cons_succ,e1]
   rfl
  ·cases q
 ·rcases key i _ e with⟨j,d',_,q,_⟩|q <;> (subst q;cases zo)
 ·rcases key i _ e with⟨j,d',_,q,_⟩|q <;> cases q
 ·rcases key i _ e with⟨j,d',_,q,_⟩|q <;> cases q
theorem fn_I{c:Bool}{w:World}{x qual cn:Str}{st:Stmt}{f C:Addr}{N ps:List Str}{k n:Nat}{g:FS}(F:Fun K x qual st f fd)(S:FnScope N ps (a_8 st))(hC:ClsAt K cn C)(hn:ps.length=n + 1)(hle:ps.length≤N.length)
  (zj:∀(zn:Value) (A:Around) (outer:List Env) (s:Shared) (H:Hp) (E:XK),RoomC c k (A.deeper (envOfC qual (a_8 st) s.heap.objs.size f zn))→
   BD (cxN c P w K mg base N qual (a_8 st) f zn A outer s H E) (fun _=>EXof K E) (d_7 st) g):FnX P w K mg base c (k + 1) f fd ps (spI K C n (at_6 N.length cn g)):=by
 refine Fun.okX F S (fun vs H Q E h=> ?_) fun zn A outer s H vs Q E hr h=>⟨_,zj zn A outer s H E hr, ?_⟩
 ·obtain⟨x,dx,vs0,Hq,G,ds,rfl,hl,_⟩:=h
  rw [List.length_cons,hl,hn]
 obtain⟨x,dx,vs0,Hq,G,ds,rfl,hl,n1,i0,hx,g0,r,q⟩:=h
 have E0:=bt_2 (N:=N) (b:=fun _=>x) (v0:= .ref x) (g0.trans i0) i0 r (by rw [hl];omega)
 have hs:(h_7 N (.ref x::vs0))[0]? =some (some (.ref x)):=rfl
 have E1:=E0.putO (i:=0) (z:= .lt (.obj cn [] [])) (v:= .ref x) (S:=fun b=>b=x) (fun a ha=>by subst ha;exact⟨n1,g0.free n1,by rw [hx];simp⟩) rfl (fun _ z=>by cases z) (.obj (S1:=fun _=>False) hC (us:= []) hx rfl rfl (fun _ z=>z.elim) .nil) (fun j a ha=>ha.elim) (fun _ _=>rfl)
 rw [s_7 hs] at E1
 refine⟨⟨Hq,fun _=>x⟩,G,G,_,_,E1, ?_⟩
 unfold at_6 at q
 have e2:(Sl.no::(ds.map Sl.sh ++ List.replicate (N.length - (ds.length + 1)) .no)).set 0 (.lt (.obj cn [] []))=aw_8 N.length cn ds:=rfl
 rw [e2]
 cases e:g (aw_8 N.length cn ds) with
 |nx Δ=>
  rw [e] at q
  intro σ G' H' O E' _
  simp only at q
  split at q
  ·rename_i p ep
   split at ep
   ·rename_i c2 ns ts e3
    split at ep
    ·rename_i hcc
     subst hcc
     split at ep
     ·rename_i rs eu
      cases ep
      obtain⟨v,s1,t3⟩:=E'.ow _ _ _ e3 rfl
      have s2:=E'.lt _ _ e3
      rw [s1] at s2
      cases s2
      cases t3 with
      |obj hc h hl' ha sub rl=>
       rw [bd_8 eu] at rl
       have:=hC.same hc
       subst this
       exact q G' H' _ _ E'.st (E'.out _ _ ha).1 h hl' rl.off
     ·cases ep
    ·cases ep
   ·cases ep
  ·rename_i x2 ep
   split at ep
   ·split at ep
    ·split at ep <;> cases ep
    ·cases ep
   ·cases ep
  ·rename_i ep
   exact q.elim
 |ex x Δ=>rw [e] at q;exact fun σ G' H' O E' _=>(EXof K E).mono _ _ _ _ _ E'.st q
 |rt w=>rw [e] at q;exact q.elim
 |bk Δ=>rw [e] at q;exact q.elim
 |ct Δ=>rw [e] at q;exact q.elim
 |no=>rw [e] at q;exact q.elim
theorem bd_9{f:Str}{y:V}:∀{ns:List Str} {us:List V},ns.length=us.length→ns.contains f=false→u_0 f y (ns.zip us)=(ns ++ [f]).zip (us ++ [y])
 | [], [],_,_=>rfl
 | [],_::_,e,_=>by simp at e
 |_::_, [],e,_=>by simp at e
 |n::ns,u::us,e,h=>by
  rw [List.contains_cons,Bool.or_eq_false_iff] at h
  have hn:¬n=f:=fun z=>by rw [z] at h;simp at h
  show u_0 f y ((n,u)::ns.zip us)=(n,u)::(ns ++ [f]).zip (us ++ [y])
  unfold u_0
  rw [if_neg hn,bd_9 (by simpa using e) h.2]
def w_2(i:Nat)(cs:List Str)(f:Str)(js:List Nat)(fe:FE):FS:=fun Δ=>match(gsome js Δ)[i]? with
 |some (.lt (.obj c ns ts))=>if cs.contains c=true∧ns.contains f=false∧ns.length < 1000 then(match fe (vsh (gsome js Δ)) with
  | .ok w=> .nx ((gsome js Δ).set i (.lt (.obj c (ns ++ [f]) (ts ++ [.sh w.d]))))
  | .ex x=> .ex x (gsome js Δ)
  | .no=> .no) else .no
 |_=> .no
section
variable{X:Cx}{EX:EXS}{pos:Pos}
theorem aw_9{i:Nat}{cs:List Str}{f x:Str}(js:List Nat){e:Expr}{fe:FE}{p1 p2:Pos}(k:OFld X.K cs f)(he:ED X EX e fe)(hN:X.N[i]? =some x:=by rfl)(hv:Vis X.env.scope x:=by first|exact Or.inl rfl|exact Or.inr (Or.inl rfl)|exact Or.inr (Or.inr rfl))(hd:(x ==("__debug__" :Str))=false:=by decide)
  (hcd:(x ==("__classdict__" :Str))=false:=by decide) (hs:swapsWith e (some (.Attribute (.Name x p1) f p2)) pos.line X.env=pure false:=by rfl):SD X EX (.Assign [.Attribute (.Name x p1) f p2] e pos) (w_2 i cs f js fe):=
 PS.imp (cq_0 (m_9 hN hv hd hcd) he hs) fun D σ H ⟨H0,G0,G,Δ,O,E,q⟩=>by
  obtain⟨G1,O1,sg,E1⟩:=E.gsome js
  unfold w_2 at q
  generalize gsome js Δ=Δ1 at q E1
  split at q
  ·rename_i c ns ts e1
   split at q
   ·rename_i hc
    obtain⟨hc1,hc2,hc3⟩:=hc
    refine⟨G1,vsh Δ1,E1.st.gh,E1.gsh, ?_⟩
    cases e2:fe (vsh Δ1) with
    |ex y=>simp only [e2] at q;exact q σ G1 H O1 E1 sg
    |no=>simp only [e2] at q;exact q.elim
    |ok w=>
     simp only [e2] at q
     refine WP.intro fun v G2 H2 st r=> ?_
     have E2:=E1.grow st
     obtain⟨v0,s1,t⟩:=E2.ow i _ _ e1 rfl
     have s2:=E2.lt i _ e1
     generalize et:(Tn.obj c ns ts)=t0 at t
     cases t with
     | @obj a C dx c2 ns2 us ts2 S S1 hC h hl ha sub rl=>
      injection et with et1 et2 et3
      subst et1 et2 et3
      obtain⟨kc,kn⟩:=k _ hc1 _ hC
      refine⟨_,s1,_,_,_,_,rfl,h,kc,kn,by rw [List.length_zip,←hl,Nat.min_self];exact hc3, ?_⟩
      rw [bd_9 hl hc2]
      have ms:=MStep.write (S:=O1 i) E2.st.gh ha (E2.out i _ ha).1 (.ins C dx ((ns ++ [f]).zip (us ++ [v])))
      refine q σ G2 _ _ (E2.step2 (S:=O1 i) (z:= .lt _) rfl (fun _ z=>by cases z) (fun _ _=>by rw [s1] at s2⊢;exact s2) ms.weak s1 (fun b hb=>⟨.inl hb,(E2.out i b hb).1,ms.al b (E2.out i b hb).2.2⟩) ?_) (sg.trans st.gg)
      refine .obj hC b_6 (by rw [List.length_append,List.length_append,hl];rfl) ha sub ?_
      refine OwL.append (S2:=fun _=>False) (rl.mono (Same.refl _) (fun b o hb z=> ?_) fun _ z=>z) (.cons (S1:=fun _=>False) (S2:=fun _=>False) (.sh r) .nil (fun _ z _=>z) (fun _ z=>z.elim) fun _ z=>z.elim) (fun _ _ z=>z) (fun _ z=>z) fun _ z=>z.elim
      rw [b_0 (sub b hb).2]
      exact z
     |_=>cases et
   ·exact q.elim
  ·exact q.elim
end
section
variable{X:Cx}{EX:EXS}{e:Expr}{es:List Expr}{x:Str}{pp pos:Pos}{cc:Bool}{k k' n:Nat}{ps:List Str}{C f:Addr}{fd:FuncData}
theorem bt_3{zd:List (Addr×Obj)}{σ:Sg}{s:Shared}{Q:VK}{sp:Sp}(M:Mk X.K C f)(F:FnX X.prog X.w X.K X.mg X.base cc k f fd ps sp)(hr:RoomC cc (k + 1) X.A)(hb:Binds X.K fd ps [])(lk:Lk X EX)(I:Inv X zd σ H s)(r:Vals vs us)
  (h:∀x dx,H x=none→H dx=none→dx≠x→sp (.ref x::vs) (upd (upd H dx (.own x)) x (.ins C dx [])) (fun v H2=>v= .non∧Q (.ref x) H2) (EXE X.K (EX σ))):wpAny (model X.prog X.w) X.A (call (.ref C) us) (EP X zd σ Q) X.xe s:=by
 have hq:=h (s.heap.objs.size + 1) s.heap.objs.size (I.hok.fresh (Nat.le_succ _)) (I.hok.fresh (Nat.le_refl _)) (Nat.ne_of_lt (Nat.lt_succ_self _))
 have I2:=Inv.made (C:=C) I
 have r2:Vals (V.ref (s.heap.objs.size + 1)::vs) (Value.ref (s.heap.objs.size + 1)::us):= .cons rfl r
 have hl:(Value.ref (s.heap.objs.size + 1)::us).length=ps.length:=by
  rw [←r2.length];exact F.len _ _ _ _ hq
 have hb':=hb _ (Value.ref (s.heap.objs.size + 1)::us) I2.kIn (by rw [List.append_nil];exact hl)
 rw [List.append_nil] at hb'
 refine wpAny_call (bw_1 (f:=f) I.kIn M.makes M.init (beq_iff_eq.mp M.fn) (codeAny_mono (F.run _ X.stack _ _ ⟨Value.ref (s.heap.objs.size + 1)::us, []⟩ (Value.ref (s.heap.objs.size + 1)::us) _ _ _ (hr.make C us []) (I2.env0.make C us []) hb' r2 hq) fun r s' hq'=> ?_))
 cases r with
 |error e=>exact lk zd σ _ _ e s' I2 hq'
 |ok fl=>
  cases fl with
  |ret u=>
   obtain⟨v,H',I3,rv,ev,q3⟩:=I2.after hq'
   subst ev
   exact⟨rv,⟨V.ref (s.heap.objs.size + 1),H',I3,rfl,q3⟩⟩
  |next=>exact False.elim hq'
  |brk=>exact False.elim hq'
  |cont=>exact False.elim hq'
def MakD(P:Program)(w:World)(K:Frag)(mg:Str→Option Value)(base:Heap)(cc:Bool)(c:Str)(k n:Nat)(F:List D→R (List Str×List D)):Prop:=
 ∃C f fd ps,ClsAt K c C∧mg c=some (.ref C)∧Mk K C f∧FnX P w K mg base cc k f fd ps (spI K C n F)∧Binds K fd ps []
def at_7(c:Str)(n:Nat)(F:List D→R (List Str×List D))(fa:FA):FE:=fun δ=>(fa δ).bind fun ds=>if ds.length=n then(F ds).bind fun p=> .ok (.sh (.obj c p.1 p.2)) else .no
theorem ci_7{F:List D→R (List Str×List D)}{fa:FA}(hr:RoomC cc k' X.A)(lk:Lk X EX)(h:MakD X.prog X.w X.K X.mg X.base cc x k n F)(ha:AD X EX (e::es) fa)(hk:k + 1≤k':=by decide)(hg:Gl X x:=by rfl)(hdb:(x ==("__debug__" :Str))=false:=by decide)
  (he:starEach (e::es) X.env=(false,eval e X.env)::starEach es X.env:=by rfl) (hpl:(backTo pos (starEach es X.env)).any (·.1)=false:=by rfl):ED X EX (.Call (.Name x pp) (e::es) [] pos) (at_7 x n F fa):=by
 obtain⟨C,f,fd,ps,hC,hm,M,ok,hb⟩:=h
 intro zd s σ H Q I q
 obtain⟨G,δ,g0,s0,o⟩:=q
 refine wpAny_Call_Name_kw (q_3 I hg hm ?_ hdb)
 have ta:tDa X.K EX fa σ H fun vs H1=>∃G1 ds,Same G1 H1∧HasL X.K G1 vs ds∧ds.length=n∧Out X.K (EX σ) G1 H1 ((F ds).bind fun p=> .ok (.sh (.obj x p.1 p.2))) Q:=by
  refine tDa.seq g0 s0 o fun ds vs G' H' _ st r o'=> ?_
  split at o'
  ·rename_i hl
   exact⟨G',ds,st.gh,r,hl,o'⟩
  ·exact o'.elim
 refine callWith_K (h₀:=X.base) I.ok.mod.kin M.kp (thn (ha pos zd s σ H _ I ta) fun us s1 ⟨vs,H1,I1,r,G1,ds,sg,rl,hl,o'⟩=>⟨I1.kIn, ?_⟩) he hpl
 refine bt_3 M ok (hr.mono hk) hb lk I1 r fun y dy ny ndy ne=> ?_
 refine⟨y,dy,vs,H1,G1,ds,rfl,by rw [rl.length];exact hl,ny,(fun b o e=>by rw [b_0 (b_8 e ny),b_0 (b_8 e ndy)];exact e),b_6,sg,rl, ?_⟩
 cases ef:F ds with
 |ok p=>
  rw [ef] at o'
  intro G' H' us' dx' st gy hy zk rr
  refine⟨rfl, ?_⟩
  have st2:Step G1 H1 (upd G' y (.ins C dx' (p.1.zip us'))) H':=⟨st.hh,fun b u z=>by
   by_cases w:b=y
   ·subst w;rw [b_6] at z;rw [hy];exact z
   ·rw [b_0 w] at z;exact st.gh b u z,st.gg.trans (j_7 gy _),fun b z1 z2=>by
   have w:b≠y:=fun w=>z2 (by rw [w];exact ny)
   rw [b_0 w];exact st.nw b z1 z2⟩
  exact o' _ _ _ st2 (.obj hC b_6 zk (rr.mono (j_7 gy _)))
 |ex z=>rw [ef] at o';exact EXof.in o'
 |no=>rw [ef] at o';exact o'
end
def y_9:List D→List D→Bool
 | [], []=>true
 | .non::a, .non::b=>y_9 a b
 | .bl x::a, .bl y::b=>(x ==y) && y_9 a b
 | .int x::a, .int y::b=>decide (x=y) && y_9 a b
 | .str x::a, .str y::b=>decide (x=y) && y_9 a b
 |_,_=>false
theorem am_4:∀{ds:List D},ds.all flatD=true→y_9 ds ds=true
 | [],_=>rfl
 |d::ds,h=>by
  rw [List.all_cons,Bool.and_eq_true] at h
  have ih:=am_4 h.2
  cases d with
  |non=>exact ih
  |bl x=>simp [y_9,ih]
  |int x=>simp [y_9,ih]
  |str x=>simp [y_9,ih]
  |_=>cases h.1
mutual
def noL(ds:List D):D→Bool
 | .lst es=> !y_9 ds es && noLs ds es
 | .tup es=>noLs ds es
 | .dic kvs=>noLk ds kvs
 | .exn _ _ vs=>noLs ds vs
 | .obj _ _ vs=>noLs ds vs
 |_=>true
def noLs(ds:List D):List D→Bool
 | []=>true
 |e::es=>noL ds e && noLs ds es
def noLk(ds:List D):List (Key×D)→Bool
 | []=>true
 |(_,e)::es=>noL ds e && noLk ds es
end
theorem be_0(ds:List D):∀kvs:List (Key×D),noLk ds kvs=noLs ds (kvs.map (·.2))
 | []=>rfl
 |(k,e)::es=>by show(noL ds e && noLk ds es)=(noL ds e && noLs ds (es.map (·.2)));rw [be_0 ds es]
def offG(G:Hp)(a:Addr):Hp:=fun b=>if b=a then none else G b
theorem n_7{G:Hp}{a b:Addr}(h:b≠a):offG G a b=G b:=if_neg h
section
variable{K:Frag}{G:Hp}{a:Addr}{vs:List V}{ds:List D}
theorem HasL.flat_same:∀{vs:List V} {ds es:List D},HasL K G vs ds→HasL K G vs es→ds.all flatD=true→es=ds
 |_,_,_, .nil, .nil,_=>rfl
 |_,_,_, .cons h r, .cons h' r',f=>by
  rw [List.all_cons,Bool.and_eq_true] at f
  rw [HasL.flat_same r r' f.2]
  congr 1
  cases h with
  |non=>cases h';rfl
  |bl b=>cases h';rfl
  |int i=>cases h';rfl
  |str x=>cases h';rfl
  |_=>cases f.1
mutual
theorem Has.off(ha:G a=some (.lst vs))(rl:HasL K G vs ds)(fl:ds.all flatD=true):∀{v:V} {d:D},Has K G v d→noL ds d=true→Has K (offG G a) v d
 |_,_, .non,_=> .non
 |_,_, .bl b,_=> .bl b
 |_,_, .int i,_=> .int i
 |_,_, .str x,_=> .str x
 |_,_, .lst (a:=b) (vs:=us) (ds:=es) h r,n=>by
  have n':(!y_9 ds es && noLs ds es)=true:=n
  rw [Bool.and_eq_true] at n'
  have r':=HasL.off ha rl fl r n'.2
  by_cases hb:b=a
  ·subst hb
   rcases h with(h|⟨o,h⟩)|h
   ·rw [ha] at h
    cases h
    have:=HasL.flat_same rl r fl
    subst this
    rw [am_4 fl] at n'
    cases n'.1
   ·rw [ha] at h;cases h
   ·exact .lst (.inr h) r'
  ·refine .lst ?_ r'
   rcases h with(h|⟨o,h⟩)|h
   ·exact .inl (.inl (by rw [n_7 hb];exact h))
   ·exact .inl (.inr ⟨o,by rw [n_7 hb];exact h⟩)
   ·exact .inr h
 |_,_, .tup (a:=b) h r,n=>by
  have r':=HasL.off ha rl fl r n
  by_cases hb:b=a
  ·subst hb
   rcases h with(h|⟨o,h⟩)|h
   ·rw [ha] at h;cases h
   ·rw [ha] at h;cases h
   ·exact .tup (.inr h) r'
  ·refine .tup ?_ r'
   rcases h with(h|⟨o,h⟩)|h
   ·exact .inl (.inl (by rw [n_7 hb];exact h))
   ·exact .inl (.inr ⟨o,by rw [n_7 hb];exact h⟩)
   ·exact .inr h
 |_,_, .exn0 (a:=b) hc h,_=>by
  have hb:b≠a:=fun z=>by rw [z,ha] at h;cases h
  exact .exn0 hc (by rw [n_7 hb];exact h)
 |_,_, .exn1 (a:=b) (d:=e) hc h hd hl r,n=>by
  have hb:b≠a:=fun z=>by rw [z,ha] at h;cases h
  have he:e≠a:=fun z=>by rw [z,ha] at hd;cases hd
  exact .exn1 hc (by rw [n_7 hb];exact h) (by rw [n_7 he];exact hd) hl (HasL.off ha rl fl r n)
 |_,_, .dic (a:=b) h hk r,n=>by
  have hb:b≠a:=fun z=>by
   rcases h with h|⟨o,h⟩
   ·rw [z,ha] at h;cases h
   ·rw [z,ha] at h;cases h
  refine .dic ?_ hk (HasL.off ha rl fl r (by rw [←be_0];exact n))
  rcases h with h|⟨o,h⟩
  ·exact .inl (by rw [n_7 hb];exact h)
  ·exact .inr ⟨o,by rw [n_7 hb];exact h⟩
 |_,_, .obj (a:=b) hc h hl r,n=>by
  have hb:b≠a:=fun z=>by rw [z,ha] at h;cases h
  exact .obj hc (by rw [n_7 hb];exact h) hl (HasL.off ha rl fl r n)
theorem HasL.off(ha:G a=some (.lst vs))(rl:HasL K G vs ds)(fl:ds.all flatD=true):∀{us:List V} {es:List D},HasL K G us es→noLs ds es=true→HasL K (offG G a) us es
 |_,_, .nil,_=> .nil
 |_,_, .cons h r,n=>by
  have n':(noL ds _ && noLs ds _)=true:=n
  rw [Bool.and_eq_true] at n'
  exact .cons (Has.off ha rl fl h n'.1) (HasL.off ha rl fl r n'.2)
end
end
section
variable{X:Cx}{EX:EXS}{pos:Pos}
end
end L3
namespace L3
open PySem L2 Builtin Builtin.Str
variable{K:Frag}{fd:FuncData}{mg:Str→Option Value}{P:Program}{vs:List V}{us:List Value}{base:Heap}{H:Hp}{X:Cx}{pos:Pos}{v:V}
theorem ci_9{x y:Str}(h:x.cps.toList=y.cps.toList):x=y:=by
 obtain⟨a⟩:=x
 obtain⟨b⟩:=y
 simp only at h
 have:a=b:=by
  have:=congrArg List.toArray h
  simpa using this
 rw [this]
theorem cj_0(x:Str):x.length=x.cps.toList.length:=by simp [Str.length]
theorem cj_1(x y:Str):(x ++ y).cps.toList=x.cps.toList ++ y.cps.toList:=by
 show(Str.append x y).cps.toList=_
 simp [Str.append]
end L3
namespace L3
open PySem L2
variable{K:Frag}{fd:FuncData}{mg:Str→Option Value}{P:Program}{vs:List V}{us:List Value}{base:Heap}{H:Hp}{X:Cx}{pos:Pos}{v:V}
theorem e_8(i j:Int):eqD (.int i) (.int j)= .ok (.sh (.bl (decide (i=j)))):=by
 have h:eqvD (.int i) (.int j)=decide (i=j):=by
  show(i ==j)=decide (i=j)
  rw [Bool.beq_eq_decide_eq]
 show(if eqC (.int i) (.int j)=true then R.ok (W.sh (D.bl (eqvD (.int i) (.int j)))) else .no)=_
 rw [if_pos (by rfl),h]
theorem cj_2(i j:Int):neD (.int i) (.int j)= .ok (.sh (.bl (!decide (i=j)))):=by
 have h:eqvD (.int i) (.int j)=decide (i=j):=by
  show(i ==j)=decide (i=j)
  rw [Bool.beq_eq_decide_eq]
 show(if eqC (.int i) (.int j)=true then R.ok (W.sh (D.bl (!eqvD (.int i) (.int j)))) else .no)=_
 rw [if_pos (by rfl),h]
theorem u_2{i j:Int}(h1: -18446744073709551616 < i)(h2:i < 18446744073709551616):mulC i j=true:=decide_eq_true (.inl (by omega))
theorem af_5{i j:Int}(h1: -18446744073709551616 < j)(h2:j < 18446744073709551616):mulC i j=true:=decide_eq_true (.inr (by omega))
theorem k_7{i j:Int}(h:mulC i j=true):o_0 (.int i) (.int j)= .ok (.sh (.int (i * j))):=by unfold o_0 intD;simp only [h,if_true]
theorem e_6(i j:Int):c_9 (.int i) (.int j)= .ok (.sh (.int (i + j))):=rfl
theorem u_3(i j:Int):subD (.int i) (.int j)= .ok (.sh (.int (i - j))):=rfl
theorem o_7{i j:Int}(h1:0 < j)(h2:j < 1361129467683753853853498429727072845824):y_3 (.int i) (.int j)= .ok (.sh (.int (i / j))):=by
 exact if_pos (show divC i j=true from decide_eq_true ⟨h1,by omega⟩)
theorem i_0{i j:Int}(h1:0 < j):n_1 (.int i) (.int j)= .ok (.sh (.int (i % j))):=by
 exact if_pos (show modC i j=true from decide_eq_true h1)
theorem bo_7(i j:Int):ltD (.int i) (.int j)= .ok (.sh (.bl (decide (i < j)))):=rfl
theorem ac_5(i j:Int):leD (.int i) (.int j)= .ok (.sh (.bl (decide (i≤j)))):=rfl
theorem at_8(i j:Int):gtD (.int i) (.int j)= .ok (.sh (.bl (decide (j < i)))):=rfl
theorem cs_6{x y:Str}(h:x.length + y.length≤16777216):c_9 (.str x) (.str y)= .ok (.sh (.str (x ++ y))):=if_pos h
theorem bo_8{x y:List D}(h:x.length + y.length≤16777216):c_9 (.lst x) (.lst y)= .ok (.ow (.lst (x ++ y))):=if_pos h
theorem cs_7{i j:Int}(h:powC i j=true):powD (.int i) (.int j)= .ok (.sh (.int (i ^ j.toNat))):=by unfold powD intD;simp only [h,if_true]
theorem bz_6{i j:Int}(h1:0≤j)(h2:j≤1000000)(h3: -18446744073709551616 < i)(h4:i < 18446744073709551616):powC i j=true:=decide_eq_true ⟨h1,by omega,by omega⟩
theorem e_9(ds:List D):l_6 [.lst ds]= .ok (.sh (.int ds.length)):=rfl
theorem bz_7{x:Str}(h:x.length≤16777216):l_6 [.str x]= .ok (.sh (.int x.length)):=if_pos h
theorem ax_0(i j:Int):maxD [.int i, .int j]= .ok (.sh (.int (max i j))):=by
 show R.ok (W.sh (D.int (if j > i then j else i)))=_
 rw [show(if j > i then j else i)=max i j by rw [Int.max_def];split <;> split <;> omega]
theorem bk_2(i j:Int):minD [.int i, .int j]= .ok (.sh (.int (min i j))):=by
 show R.ok (W.sh (D.int (if j < i then j else i)))=_
 rw [show(if j < i then j else i)=min i j by rw [Int.min_def];split <;> split <;> omega]
theorem aa_4{ds:List D}{i:Int}{d:D}(h:atI ds i=some d):ixD (.lst ds) (.int i)= .ok (.sh d):=by unfold ixD;simp only [h]
theorem cj_3{x:Str}{i:Int}{c:Nat}(hz:x.length≤16777216)(h:atI x.cps.toList i=some c):ixD (.str x) (.int i)= .ok (.sh (.str ⟨#[c]⟩)):=by
 unfold ixD
 simp only [h,if_pos hz]
theorem bz_8{α:Type}{xs:List α}{i:Int}{x:α}(h0:0≤i)(h:xs[i.toNat]? =some x):atI xs i=some x:=by
 have hl:i.toNat < xs.length:=(List.getElem?_eq_some_iff.mp h).1
 unfold atI ixN
 rw [if_pos h0,if_pos (by omega)]
 exact h
theorem bt_4(fg:FG)(g:FS)(I:Nat→SE→Prop){n:Nat}{lo:Int}{Δ:SE}(h0:I 0 Δ)
  (step:∀k Δ,k < n→I k Δ→∃Δ1,fg (.int (lo + (k:Int))) Δ= .ok Δ1∧∃Δ2,(g Δ1= .nx Δ2∨g Δ1= .ct Δ2)∧I (k + 1) Δ2):∃Δ',i_2 fg g (e_5 lo n) Δ= .nx Δ'∧I n Δ':=by
 have all:∀(m k:Nat) (Δ:SE),k + m=n→I k Δ→∃Δ',i_2 fg g ((List.range' k m).map fun(j:Nat)=>D.int (lo + (j:Int))) Δ= .nx Δ'∧I n Δ':=by
  intro m
  induction m with
  |zero=>intro k Δ e h;exact⟨Δ,rfl,by rw [←e];exact h⟩
  |succ m ih=>
   intro k Δ e h
   obtain⟨Δ1,e1,Δ2,e2,h2⟩:=step k Δ (by omega) h
   obtain⟨Δ',e3,h3⟩:=ih (k + 1) Δ2 (by omega) h2
   refine⟨Δ', ?_,h3⟩
   rw [List.range'_succ,List.map_cons]
   show(match fg (.int (lo + (k:Int))) Δ with
    | .ok Δ1=>(match g Δ1 with
     | .nx Δ2=>i_2 fg g _ Δ2
     | .ct Δ2=>i_2 fg g _ Δ2
     | .bk Δ2=> .nx Δ2
     |r=>r)
    | .ex _=> .no
    | .no=> .no)=_
   rw [e1]
   rcases e2 with e2|e2
   ·simp only [e2];exact e3
   ·simp only [e2];exact e3
 obtain⟨Δ',e,h⟩:=all n 0 Δ (by omega) h0
 refine⟨Δ', ?_,h⟩
 unfold e_5
 rw [List.range_eq_range']
 exact e
theorem n_2(fg:FG)(g:FS)(I:Nat→SE→Prop){ds:List D}{Δ:SE}(h0:I 0 Δ)
  (step:∀k d Δ,ds[k]? =some d→I k Δ→∃Δ1,fg d Δ= .ok Δ1∧∃Δ2,(g Δ1= .nx Δ2∨g Δ1= .ct Δ2)∧I (k + 1) Δ2):∃Δ',i_2 fg g ds Δ= .nx Δ'∧I ds.length Δ':=by
 have all:∀(m k:Nat) (Δ:SE),k + m=ds.length→I k Δ→∃Δ',i_2 fg g (ds.drop k) Δ= .nx Δ'∧I ds.length Δ':=by
  intro m
  induction m with
  |zero=>
   intro k Δ e h
   rw [List.drop_eq_nil_of_le (by omega)]
   exact⟨Δ,rfl,by rw [←e];exact h⟩
  |succ m ih=>
   intro k Δ e h
   obtain⟨d,d1,d2⟩:=v_7 (l:=ds) (i:=k) (by omega)
   obtain⟨Δ1,e1,Δ2,e2,h2⟩:=step k d Δ d1 h
   obtain⟨Δ',e3,h3⟩:=ih (k + 1) Δ2 (by omega) h2
   refine⟨Δ', ?_,h3⟩
   rw [d2]
   show(match fg d Δ with
    | .ok Δ1=>(match g Δ1 with
     | .nx Δ2=>i_2 fg g (ds.drop (k + 1)) Δ2
     | .ct Δ2=>i_2 fg g (ds.drop (k + 1)) Δ2
     | .bk Δ2=> .nx Δ2
     |r=>r)
    | .ex _=> .no
    | .no=> .no)=_
   rw [e1]
   rcases e2 with e2|e2
   ·simp only [e2];exact e3
   ·simp only [e2];exact e3
 have:=all ds.length 0 Δ (by omega) h0
 rwa [List.drop_zero] at this
theorem ac_6{j:Int}(h1: -4611686018427387903≤j)(h2:j < 4611686018427387904):m_7 [.int j]= .ok (e_5 0 j.toNat):=by
 have h:j.natAbs < 4611686018427387904:=by omega
 exact if_pos h
theorem g_3{m:Nat}{fi:FI}{fg:FGc}{p:FT}{f:FE}{δ:DE}{ds rs:List D}(h:fi δ= .ok ds)(hl:ds.length≤16777216)(hc:m_8 fg p f (δ ++ List.replicate m none) ds= .ok rs):c_8 m fi fg p f δ= .ok (.ow (.lst rs)):=by
 unfold c_8
 rw [h]
 simp only [R.bind_ok]
 rw [if_pos hl,hc]
 rfl
theorem cm_8{fg:FGc}{p:FT}{f:FE}{δ:DE}:∀(n:Nat) (lo:Int),(∀k:Nat,k < n→∃δ1 z,fg (.int (lo + (k:Int))) δ= .ok δ1∧p δ1= .ok true∧f δ1= .ok (.sh (.int z)))→
  ∃cs:List Int,cs.length=n∧m_8 fg p f δ (e_5 lo n)= .ok (cs.map D.int):=by
 have all:∀(es:List Nat) (lo:Int),(∀k∈es,∃δ1 z,fg (.int (lo + ((k:Nat):Int))) δ= .ok δ1∧p δ1= .ok true∧f δ1= .ok (.sh (.int z)))→
   ∃cs:List Int,cs.length=es.length∧m_8 fg p f δ (es.map fun(k:Nat)=>D.int (lo + (k:Int)))= .ok (cs.map D.int):=by
  intro es lo
  induction es with
  |nil=>intro _;exact⟨[],rfl,rfl⟩
  |cons k es ih=>
   intro h
   obtain⟨δ1,z,e1,e2,e3⟩:=h k List.mem_cons_self
   obtain⟨cs,l5,e5⟩:=ih fun j hj=>h j (List.mem_cons_of_mem _ hj)
   refine⟨z::cs,by simp [l5], ?_⟩
   rw [List.map_cons,List.map_cons]
   show((fg (.int (lo + (k:Int))) δ).bind fun δ1=>(p δ1).bind fun b=>if b=true then(f δ1).bind fun w=>(m_8 fg p f δ _).bind fun rs=> .ok (w.d::rs) else m_8 fg p f δ _)=_
   rw [e1]
   simp only [R.bind_ok,e2,if_true,e3]
   rw [e5]
   rfl
 intro n lo h
 obtain⟨cs,l,e⟩:=all (List.range n) lo fun k hk=>h k (List.mem_range.mp hk)
 exact⟨cs,by rw [l,List.length_range],e⟩
theorem l_8{js:List Nat}{p:FT}{g:FS}{n:Nat}{Δ Δ':SE}(h1:p (vall Δ)= .ok true)(h2:g Δ= .nx Δ'):f_1 js p g (n + 1) Δ=f_1 js p g n Δ':=by
 show(match p (vall Δ) with
  | .ok b=>if b=true then(match g Δ with
    | .nx Δ'=>f_1 js p g n Δ'
    | .ct Δ'=>f_1 js p g n Δ'
    | .bk Δ'=> .nx Δ'
    |r=>r) else .nx Δ
  | .ex _=>exT js p Δ
  | .no=> .no)=_
 rw [h1]
 simp only [if_true,h2]
theorem t_0{js:List Nat}{p:FT}{g:FS}{n:Nat}{Δ:SE}(h1:p (vall Δ)= .ok false):f_1 js p g (n + 1) Δ= .nx Δ:=by
 show(match p (vall Δ) with
  | .ok b=>if b=true then(match g Δ with
    | .nx Δ'=>f_1 js p g n Δ'
    | .ct Δ'=>f_1 js p g n Δ'
    | .bk Δ'=> .nx Δ'
    |r=>r) else .nx Δ
  | .ex _=>exT js p Δ
  | .no=> .no)=_
 rw [h1]
 simp only [Bool.false_eq_true,if_false]
theorem bz_9(d:D):Sl.pub (.sh d)=some d:=rfl
theorem cs_8(d:D):Sl.pub (.ow d)=none:=rfl
theorem cs_9:Sl.pub .no=none:=rfl
theorem ct_0(d:D):Sl.any (.sh d)=some d:=rfl
theorem ct_1(d:D):Sl.any (.ow d)=some d:=rfl
theorem ct_2:Sl.any .no=none:=rfl
theorem cj_4(d:D):Sl.give (.sh d)= .sh d:=rfl
theorem cj_5(d:D):Sl.give (.ow d)= .sh d:=rfl
theorem cj_6:Sl.give .no= .no:=rfl
theorem b_3{g h:FS}{Δ Δ':SE}(e:g Δ= .nx Δ'):sSeq g h Δ=h Δ':=by unfold sSeq;rw [e]
theorem r_0{n:Nat}{g:FS}{ds:List D}{w:W}(e:g (start3 n ds)= .rt w):bodyD n g ds= .ok w:=by unfold bodyD;rw [e]
theorem p_4{fg:FGc}{p:FT}{f:FE}{δ:DE}(P:D→Bool)(F:D→D):∀(ds:List D),(∀d∈ds,∃δ1,fg d δ= .ok δ1∧p δ1= .ok (P d)∧(P d=true→∃w,f δ1= .ok w∧w.d=F d))→
  m_8 fg p f δ ds= .ok ((ds.filter P).map F)
 | [],_=>rfl
 |d::ds,h=>by
  obtain⟨δ1,e1,e2,e3⟩:=h d List.mem_cons_self
  have ih:=p_4 P F ds fun x hx=>h x (List.mem_cons_of_mem _ hx)
  show((fg d δ).bind fun δ1=>(p δ1).bind fun b=>if b=true then(f δ1).bind fun w=>(m_8 fg p f δ ds).bind fun rs=> .ok (w.d::rs) else m_8 fg p f δ ds)=_
  rw [e1]
  simp only [R.bind_ok,e2]
  cases hP:P d with
  |true=>
   obtain⟨w,e4,e5⟩:=e3 hP
   rw [if_pos rfl,e4,ih]
   simp only [R.bind_ok,e5,List.filter_cons_of_pos hP,List.map_cons]
  |false=>
   rw [if_neg Bool.false_ne_true,ih,List.filter_cons_of_neg (by rw [hP];exact Bool.false_ne_true)]
theorem o_1{fg:FGc}{f:FE}{δ:DE}(F:D→D)(ds:List D)(h:∀d∈ds,∃δ1 w,fg d δ= .ok δ1∧f δ1= .ok w∧w.d=F d):
  m_8 fg (fun _=> .ok true) f δ ds= .ok (ds.map F):=by
 have:=p_4 (fg:=fg) (p:=fun _=> .ok true) (f:=f) (δ:=δ) (fun _=>true) F ds fun d hd=>by
  obtain⟨δ1,w,e1,e2,e3⟩:=h d hd
  exact⟨δ1,e1,rfl,fun _=>⟨w,e2,e3⟩⟩
 rw [this,List.filter_eq_self.mpr fun _ _=>rfl]
theorem be_1:isT "int" .non=some false:=rfl
theorem bk_3(b:Bool):isT "int" (.bl b)=some true:=rfl
theorem be_2(i:Int):isT "int" (.int i)=some true:=rfl
theorem be_3(x:Str):isT "int" (.str x)=some false:=rfl
theorem be_4(l:List D):isT "int" (.lst l)=some false:=rfl
theorem be_5(l:List D):isT "int" (.tup l)=some false:=rfl
theorem ax_1:isT "bool" .non=some false:=rfl
theorem be_6(b:Bool):isT "bool" (.bl b)=some true:=rfl
theorem ax_2(i:Int):isT "bool" (.int i)=some false:=rfl
theorem ax_3(x:Str):isT "bool" (.str x)=some false:=rfl
theorem ax_4(l:List D):isT "bool" (.lst l)=some false:=rfl
theorem ax_5(l:List D):isT "bool" (.tup l)=some false:=rfl
theorem be_7:isT "str" .non=some false:=rfl
theorem bk_4(b:Bool):isT "str" (.bl b)=some false:=rfl
theorem be_8(i:Int):isT "str" (.int i)=some false:=rfl
theorem be_9(x:Str):isT "str" (.str x)=some true:=rfl
theorem bf_0(l:List D):isT "str" (.lst l)=some false:=rfl
theorem bf_1(l:List D):isT "str" (.tup l)=some false:=rfl
theorem ax_6:isT "list" .non=some false:=rfl
theorem bf_2(b:Bool):isT "list" (.bl b)=some false:=rfl
theorem ax_7(i:Int):isT "list" (.int i)=some false:=rfl
theorem ax_8(x:Str):isT "list" (.str x)=some false:=rfl
theorem ax_9(l:List D):isT "list" (.lst l)=some true:=rfl
theorem ay_0(l:List D):isT "list" (.tup l)=some false:=rfl
theorem ap_7:isT "tuple" .non=some false:=rfl
theorem ay_1(b:Bool):isT "tuple" (.bl b)=some false:=rfl
theorem ap_8(i:Int):isT "tuple" (.int i)=some false:=rfl
theorem ap_9(x:Str):isT "tuple" (.str x)=some false:=rfl
theorem aq_0(l:List D):isT "tuple" (.lst l)=some false:=rfl
theorem aq_1(l:List D):isT "tuple" (.tup l)=some true:=rfl
end L3
namespace L3
open PySem PySem.Spec PyProof.Rows L2
variable{K:Frag}{fd:FuncData}{mg:Str→Option Value}{P:Program}{vs:List V}{us:List Value}{base:Heap}{H:Hp}{X:Cx}{pos:Pos}{v:V}
def ay_2:List Value→Bool
 | .ref _::r=>ay_2 r
 |l=>l == [.type "ValueError", .type "Exception", .type "BaseException", .type "object"]
theorem z_0(self:Value):∀{l:List Value},ay_2 l=true→refuseLoop self "__setattr__" l=pure ()
 | [],e=>by cases e
 | .ref c::r,e=>by rw [refuseLoop_ref];exact z_0 self e
 | .type n::r,e=>by
  have e':(Value.type n::r)= [.type "ValueError", .type "Exception", .type "BaseException", .type "object"]:=eq_of_beq e
  rw [e']
  exact PySem.F.store_ValueError.passes self
 | .none::r,e=>by cases(eq_of_beq (show((Value.none::r) == [.type "ValueError", .type "Exception", .type "BaseException", .type "object"])=true from e))
 | .bool b::r,e=>by cases(eq_of_beq (show((Value.bool b::r) == [.type "ValueError", .type "Exception", .type "BaseException", .type "object"])=true from e))
 | .int b t::r,e=>by cases(eq_of_beq (show((Value.int b t::r) == [.type "ValueError", .type "Exception", .type "BaseException", .type "object"])=true from e))
 | .str b t::r,e=>by cases(eq_of_beq (show((Value.str b t::r) == [.type "ValueError", .type "Exception", .type "BaseException", .type "object"])=true from e))
 | .builtin b::r,e=>by cases(eq_of_beq (show((Value.builtin b::r) == [.type "ValueError", .type "Exception", .type "BaseException", .type "object"])=true from e))
theorem am_5:∀{l:List Value},ay_2 l=true→l.contains (.type "object")=true∧l.isEmpty=false
 | [],e=>by cases e
 | .ref c::r,e=>⟨by rw [List.contains_cons,(am_5 (l:=r) e).1,Bool.or_true],rfl⟩
 | .type n::r,e=>by
  have e':(Value.type n::r)= [.type "ValueError", .type "Exception", .type "BaseException", .type "object"]:=eq_of_beq e
  rw [e']
  exact⟨by decide,rfl⟩
 | .none::r,e=>by cases(eq_of_beq (show((Value.none::r) == [.type "ValueError", .type "Exception", .type "BaseException", .type "object"])=true from e))
 | .bool b::r,e=>by cases(eq_of_beq (show((Value.bool b::r) == [.type "ValueError", .type "Exception", .type "BaseException", .type "object"])=true from e))
 | .int b t::r,e=>by cases(eq_of_beq (show((Value.int b t::r) == [.type "ValueError", .type "Exception", .type "BaseException", .type "object"])=true from e))
 | .str b t::r,e=>by cases(eq_of_beq (show((Value.str b t::r) == [.type "ValueError", .type "Exception", .type "BaseException", .type "object"])=true from e))
 | .builtin b::r,e=>by cases(eq_of_beq (show((Value.builtin b::r) == [.type "ValueError", .type "Exception", .type "BaseException", .type "object"])=true from e))
structure XCls(K:Frag)(C:Addr):Prop where
 sa:findIn K (.ref C) "__setattr__" =some (some (.builtin "object.__setattr__"))
 over:(clsIn K C).any (fun cd=>ay_2 cd.mro && cd.hasDict)=true
section
variable{prog:Program}{w:World}{A:Around}{E:Value→Shared→Prop}{s:Shared}{K:Frag}{x C:Addr}{R:Result→Shared→Prop}
theorem cj_7{ox:Obj}{od:Option Obj}{name:Str}{tk:Tok}{v:Value}(X:K.In s.heap)(I:InstAt s.heap x ox C od)(xc:XCls K C)(ha:findIn K (.ref C) name=some none)
  (h:wpAny (model prog w) A.in1 (Builtin.ObjectAttr.storeInOwnDict (.ref x) (.ref C) (.str name tk) name v false)
   (fun fin s'=>match fin with| .done f=>R (.ok f) s'| .again c'=>c'.quiet=true∧codeAny (model prog w) A c' R s') (fun e s'=>R (.error e) s') s):
  codeAny (model prog w) A (.call (.builtin "object.__setattr__") ⟨[.ref x, .str name tk,v], []⟩) R s:=by
 have SF:=PySem.F.store_object
 obtain⟨cd,hc,ho⟩:=any_some xc.over
 rw [Bool.and_eq_true] at ho
 obtain⟨hs1,hs2⟩:=am_5 ho.1
 have sub:Looks (model prog w) s.heap (isInstance (.ref x) (.type "object")) true:=I.type.andThen (looks_mroIn X (by unfold mroIn;rw [hc,Option.bind_some,if_neg (by rw [hs2];decide),hs1]))
 refine codeAny_call_builtin SF.slot.plain SF.entry (@check_slot (model prog w) _ _ s "object.__setattr__" "object" "__setattr__" (.ref x) [.str name tk,v] [] _ SF.kind SF.split sub (SF.args (.ref x) (.str name tk) v) ?_)
 have hm:Looks (model prog w) s.heap (mroOf (.ref C)) cd.mro:=(looks_clsIn X hc).andThen .now
 rw [osa_eq,refuse_eq]
 refine wpAny_bind (wpAny_bind (I.type.here (wpAny_bind (hm.here ?_))))
 rw [z_0 _ ho.1]
 refine wpAny_pure (wpAny_bind (I.type.here (wpAny_bind ((looks_findIn X ha).here (wpAny_bind (wpAny_pure (a:=(none:Option Value)) ?_))))))
 exact h
theorem bt_5{D:Addr}{name:Str}{tk:Tok}{v:Value}{Q:PySem.Fin→Shared→Prop}(hD:s.heap.get? D=some {cls:= .type "dict",data:= .dict #[]})
  (h:∀h' tk,h'.Ns1 D (fun y=>if y=name then some v else none)→Heap.SameBut D s.heap h'→Q (.done (.ret .none)) {s with heap:=h',toks:=tk}):wpAny (model prog w) A (Builtin.ObjectAttr.storeInDict D (.str name tk) name v) Q E s:=by
 have bx:s.heap.Ns D fun _=>none:=⟨_, #[],_,hD,rfl,fun _ he=>(Array.not_mem_empty _ he).elim,fun _=>rfl⟩
 unfold Builtin.ObjectAttr.storeInDict Builtin.ObjectAttr.newKeyGuard
 wp_walk using wpAny_nsSet1 (Heap.Ns1.of_empty bx)
 intro h' n sb
 obtain⟨o,es,ep,at1,is1,few⟩:=n.count (.cons name v .nil)
 have le:es.size≤sizeLine + 1:=Nat.le_trans few (by simp [sizeLine_eq])
 exact wpAny_bind (wpAny_lookBehind at1 (is1▸pastItsLine_dict le) (wpAny_pure (h h' _ n sb)))
theorem bf_3{name:Str}{v:Value}{us:Array Value}{Q:Unit→Shared→Prop}(X:K.In s.heap)(hx:s.heap.get? x=some ⟨.ref C,none, .fields us, #[]⟩)(xc:XCls K C)(ha:findIn K (.ref C) name=some none)
  (h:∀h' tk,h'.get? x=some ⟨.ref C,some s.heap.objs.size, .fields us, #[]⟩→h'.Ns1 s.heap.objs.size (fun y=>if y=name then some v else none)→(∀b o,b≠x→s.heap.get? b=some o→h'.get? b=some o)→Q () {s with heap:=h',toks:=tk}):
  wpAny (model prog w) A (setAttr (.ref x) name v) Q E s:=by
 have I:InstAt s.heap x ⟨.ref C,none, .fields us, #[]⟩ C none:=⟨hx,rfl,rfl,True.intro⟩
 refine set_plain X I xc.sa (cj_7 (s:={s with toks:=s.toks + 1}) X I xc ha ?_)
 obtain⟨cd,hc,hd'⟩:=any_some xc.over
 rw [Bool.and_eq_true] at hd'
 refine wpAny_bind (wpAny_pure (wpAny_bind (wpAny_bind (wpAny_loadPart (s:={s with toks:=s.toks + 1}) hx (wpAny_bind (Looks.here (s:={s with toks:=s.toks + 1}) (looks_clsIn X hc) ?_))))))
 rw [hd'.2]
 
 have neD:x≠s.heap.objs.size:=Nat.ne_of_lt (Heap.lt_size hx)
 have old:∀b o,b≠x→s.heap.get? b=some o→((s.heap.push {cls:= .type "dict",data:= .dict #[]}).update x fun o=>{o with dict:=some s.heap.objs.size}).get? b=some o:=fun b o hb e=>by
  rw [Heap.get?_update_ne _ _ _ _ hb];exact Heap.get?_push_of_some _ e
 have itself:=Heap.get?_update_self (fun o:Obj=>{o with dict:=some s.heap.objs.size}) (Heap.get?_push_of_some {cls:= .type "dict",data:= .dict #[]} hx) rfl
 have isD:((s.heap.push {cls:= .type "dict",data:= .dict #[]}).update x fun o=>{o with dict:=some s.heap.objs.size}).get? s.heap.objs.size=some {cls:= .type "dict",data:= .dict #[]}:=by
  rw [Heap.get?_update_ne _ _ _ _ (Ne.symm neD)];exact Heap.get?_push_size _ rfl
 refine wpAny_bind (wpAny_alloc' (wpAny_bind (wpAny_update' (Heap.get?_push_of_some _ hx) (wpAny_pure (bt_5 isD fun h' tk n sb=>h h' tk ?_ n fun b o hb e=> ?_)))))
 ·rw [sb.2 x neD];exact itself
 ·rw [sb.2 b (Nat.ne_of_lt (Heap.lt_size e))];exact old b o hb e
end
def XE(a:Addr)(o:Obj):HO:= .ext fun h=>h.get? a=some o
theorem XE.ok{w:World}{h:Heap}{a:Addr}{o:Obj}(e:h.get? a=some o):ObjOk P w H h a (XE a o):=⟨e,⟨o,e⟩,fun _ _ p k=>k _ p⟩
theorem XE.get{w:World}{h:Heap}{a:Addr}{o:Obj}(x:HOk P w H h)(e:H a=some (XE a o)):h.get? a=some o:=(x a _ e).1
theorem XO.ok{w:World}{h:Heap}{a C:Addr}{dx:Option Addr}{us:Array Value}{sl:Array (Option Value)}(e:h.get? a=some ⟨.ref C,dx, .fields us,sl⟩):ObjOk P w H h a (XO a C dx):=
 ⟨⟨us,sl,e⟩,⟨_,e⟩,fun _ _ ⟨us,sl,p⟩ k=>⟨us,sl,k _ p⟩⟩
section
variable{X:Cx}{zd:List (Addr×Obj)}{σ:Sg}{H:Hp}{s:Shared}
theorem Inv.excSet{a:Addr}{o0 o1:Obj}{h':Heap}{t':Nat}{fs:List (Str×V)}{mA:Str→Option Value}(I:Inv X zd σ H s)(e:H a=some (XE a o0))(hx:h'.get? a=some o1)(hn:h'.Ns1 s.heap.objs.size mA)(hr:∀f,RelO (fs.lookup f) (mA f))
  (k:∀b o,b≠a→s.heap.get? b=some o→h'.get? b=some o):Inv X zd σ (upd (upd H s.heap.objs.size (.xd fs)) a (XE a o1)) {s with heap:=h',toks:=t'}:=by
 have hf:H s.heap.objs.size=none:=I.hok.fresh (Nat.le_refl _)
 have other:∀b u,H b=some u→b≠a→(upd (upd H s.heap.objs.size (.xd fs)) a (XE a o1)) b=some u:=fun b u q n=>by
  rw [b_0 n,b_0 (b_8 q hf)];exact q
 refine I.un (h':=h') ⟨fun b o q n _ _=>k b o (fun z=>by subst z;rw [e] at n;cases n) q,fun b o q n _ _=>⟨o.slots,k b o (fun z=>by subst z;rw [e] at n;cases n) q⟩,fun b o q n _=> ?_,fun b o q _=> ?_,fun b xs q=> ?_,fun b o u q=> ?_,fun b ps q=> ?_⟩ fun b u q=> ?_
 ·rw [b_0 (fun z=>by subst z;rw [e] at n;cases n),b_0 (Nat.ne_of_lt (Heap.lt_size q))];exact n
 ·by_cases z:b=a
  ·subst z;exact⟨_,hx⟩
  ·exact⟨_,k b o z q⟩
 ·exact other b _ q fun z=>by subst z;rw [e] at q;cases q
 ·exact other b _ q fun z=>by subst z;rw [e] at q;cases q
 ·exact⟨#[],by rw [other b _ q fun z=>by subst z;rw [e] at q;cases q];simp⟩
 ·by_cases z:b=a
  ·subst z
   rw [b_6] at q
   cases q
   exact XE.ok hx
  ·rw [b_0 z] at q
   by_cases z2:b=s.heap.objs.size
   ·subst z2
    rw [b_6] at q
    cases q
    exact⟨mA,hn,hr⟩
   ·rw [b_0 z2] at q
    refine(I.hok b u q).stay (fun c v hc z3=>k c v ?_ z3) (fun c z3=>other c _ z3 fun z4=> ?_) fun c xs z3=>other c _ z3 fun z4=> ?_
    ·rcases hc with rfl|hc
     ·exact z
     ·exact fun z4=>by subst z4;rw [e] at hc;cases hc
    ·subst z4;rw [e] at z3;cases z3
    ·subst z4;rw [e] at z3;cases z3
theorem Inv.forget{a:Addr}{φ:Heap→Prop}(I:Inv X zd σ (upd H a (.ext φ)) s)(hn:H a=none):Inv X zd σ H s:=by
 have sub:∀b u,H b=some u→upd H a (.ext φ) b=some u:=fun b u e=>by rw [b_0 (b_8 e hn)];exact e
 have nf:∀b,upd H a (.ext φ) b=none→H b=none:=fun b e=>by
  by_cases z:b=a
  ·subst z;exact hn
  ·rw [b_0 z] at e;exact e
 have bk:∀b u,upd H a (.ext φ) b=some u→(∀ψ,u≠ .ext ψ)→H b=some u:=fun b u e n=>by
  by_cases z:b=a
  ·subst z;rw [b_6] at e;cases e;exact absurd rfl (n φ)
  ·rw [b_0 z] at e;exact e
 have B:=I.base
 refine⟨I.ok,I.os,I.bare,⟨B.keep,B.slot,fun b u q n x=>nf b (B.free b u q n x),B.there,fun b xs q=>bk _ _ (B.tups b xs q) (fun _ z=>nomatch z),fun b u v q=>bk _ _ (B.frzs b u v q) (fun _ z=>nomatch z),fun b ps q=> ?_⟩,I.loc,I.cell,nf _ I.free,fun x c e=>nf _ (I.freeC x c e),fun p hp=> ?_,fun b u e=> ?_,I.len⟩
 ·obtain⟨more,z⟩:=B.tbls b ps q
  exact⟨more,bk _ _ z (fun _ z=>nomatch z)⟩
 ·obtain⟨p1,p2,p3⟩:=I.pin p hp
  exact⟨p1,nf _ p2,p3⟩
 ·exact(I.hok b u (sub b u e)).stay (fun _ _ _ q=>q) (fun c q=>bk _ _ q (fun _ z=>nomatch z)) (fun c xs q=>bk _ _ q (fun _ z=>nomatch z))
end
def af_6(C:Addr)(f:Str):Sp:=fun vs H Q _=>∃a v us,vs= [.ref a,v]∧H a=some (XE a ⟨.ref C,none, .fields us, #[]⟩)∧∀d,H d=none→d≠a→Q .non (upd (upd H d (.xd [(f,v)])) a (XE a ⟨.ref C,some d, .fields us, #[]⟩))
section
variable{X:Cx}{C:Addr}{f:Str}{pos pos' p1 p2:Pos}{x y:Str}
def cm_9(C:Addr)(f:Str):TS:=fun D σ H=>∃a v us,σ[0]? =some (some (.ref a))∧σ[1]? =some (some v)∧H a=some (XE a ⟨.ref C,none, .fields us, #[]⟩)∧∀d,H d=none→d≠a→D.nx σ (upd (upd H d (.xd [(f,v)])) a (XE a ⟨.ref C,some d, .fields us, #[]⟩))
theorem ay_3(xc:XCls X.K C)(hn:findIn X.K (.ref C) f=some none)(ho:PE X (.Name x p1) (tVar 0))(hv:PE X (.Name y p2) (tVar 1))(hs:swapsWith (.Name y p2) (some (.Attribute (.Name x p1) f pos')) pos.line X.env=pure false:=by rfl):
  PS X (.Assign [.Attribute (.Name x p1) f pos'] (.Name y p2) pos) (cm_9 C f):=by
 intro zd s σ H D I h
 obtain⟨a,v,us,e0,e1,ha,q⟩:=h
 refine plainObj_wpAny_Assign_Attribute (thn (hv zd s σ H (fun y H1=>y=v∧H1=H) I ⟨v,e1,rfl,rfl⟩) fun u s1 ⟨y,H1,I1,ry,ey,eH⟩=>thn (ho zd s1 σ H1 (fun y H2=>y= .ref a∧H2=H) I1 ⟨.ref a,e0,rfl,eH⟩) fun ov s2 ⟨x,H2,I2,rx,ex,eH2⟩=> ?_) hs
 subst ey ex eH eH2
 obtain rfl:ov=Value.ref a:=rx
 refine bf_3 I2.kIn (XE.get I2.hok ha) xc hn fun h' tk g1 g2 g3=> ?_
 refine⟨σ,_,Inv.excSet I2 (t':=tk) (fs:= [(f,y)]) ha g1 g2 (fun g=> ?_) g3,q _ (I2.hok.fresh (Nat.le_refl _)) ?_⟩
 ·show RelO ([(f,y)].lookup g) (if g=f then some u else none)
  by_cases z:g=f
  ·subst z;rw [if_pos rfl];simp only [List.lookup_cons,beq_self_eq_true];exact ry
  ·rw [if_neg z]
   have zb:(g ==f)=false:=by simpa using z
   simp only [List.lookup_cons,zb,List.lookup_nil]
   trivial
 ·exact Nat.ne_of_gt (Heap.lt_size (XE.get I2.hok ha))
end
abbrev bmVE:List Value:= [.type "ValueError", .type "Exception", .type "BaseException", .type "object"]
def g_4(es:Array DictEntry):Bool:=es.toList.all fun e=>match e.key with| .str _ _=>true|_=>false
theorem bk_5{es:Array DictEntry}(h:g_4 es=true):StrKeys es:=fun e he=>by
 have q:=List.all_eq_true.mp h e (Array.mem_toList_iff.mpr he)
 revert q
 cases hk:e.key with
 |str n t=>intro _;exact⟨n,t,rfl⟩
 |_=>intro q;cases q
theorem bo_9{N:Addr}{oc:Value}{od:Option Addr}{es:Array DictEntry}{ep:Nat}{sl:Array (Option Value)}(l:K.lookup N=some ⟨oc,od, .dict es ep,sl⟩)(k:g_4 es=true){h:Heap}(X:K.In h):h.Ns N (nsFind es):=
 ⟨_,es,ep,X _ _ l,rfl,bk_5 k,fun _=>rfl⟩
def XMk(K:Frag)(C fI:Addr):Prop:=∃(nm q:Str) (N:Addr) (bs bm:List Value) (sn:List Str) (sub:List Value) (ab:Bool) (col:Option Bool) (dd:Option Addr) (k0 k1 k2 k3 k5:Option Value) (mN:Str→Option Value),
 K.lookup C=some (excClassObj nm q C N bs bm true sn sub ab col dd k0 k1 k2 k3 k5 "ValueError.__new__")∧(∀h:Heap,K.In h→OwnTail h bmVE bm)∧(∀h:Heap,K.In h→h.Ns N mN)∧mN "__init__" =some (.ref fI)
theorem bk_6{C fI N L:Addr}{nm q:Str}{bs:List Value}{sn:List Str}{sub:List Value}{ab:Bool}{col:Option Bool}{dd:Option Addr}{k0 k1 k2 k3 k5:Option Value}{oc c0 oL:Value}{od ddL odL:Option Addr}{es esL:Array DictEntry}{ep epL:Nat}{sl sl0 slL:Array (Option Value)}{cd:ClassData}
  (lc:K.lookup C=some (excClassObj nm q C N bs (.ref L::bmVE) true sn sub ab col dd k0 k1 k2 k3 k5 "ValueError.__new__")) (ln:K.lookup N=some ⟨oc,od, .dict es ep,sl⟩) (kn:g_4 es=true) (hi:nsFind es "__init__" =some (.ref fI))
  (ll:K.lookup L=some ⟨c0,ddL, .cls cd,sl0⟩) (lm:K.lookup cd.ns=some ⟨oL,odL, .dict esL epL,slL⟩) (km:g_4 esL=true) (hL:nsFind esL "__init__" =none):XMk K C fI:=
 ⟨nm,q,N,bs,_,sn,sub,ab,col,dd,k0,k1,k2,k3,k5,nsFind es,lc,fun h X=> .own (X _ _ ll) (bo_9 lm km X) hL .base,fun h X=>bo_9 ln kn X,hi⟩
theorem ay_4{C N L:Addr}{nm q:Str}{bs:List Value}{sn:List Str}{sub:List Value}{ab:Bool}{col:Option Bool}{dd:Option Addr}{k0 k1 k2 k3 k5:Option Value}
  (lc:K.lookup C=some (excClassObj nm q C N bs (.ref L::bmVE) true sn sub ab col dd k0 k1 k2 k3 k5 "ValueError.__new__")) (sa:findIn K (.ref C) "__setattr__" =some (some (.builtin "object.__setattr__"))):XCls K C:=
 ⟨sa,by unfold clsIn;rw [lc];rfl⟩
theorem ay_5{c:Bool}{w:World}{x qual sf at_ fl:Str}{st:Stmt}{f C:Addr}{k:Nat}(F:Fun K x qual st f fd)(S:FnScope [sf,at_] [sf,at_] (a_8 st))
  (zj:∀(zn:Value) (A:Around) (outer:List Env) (s:Shared) (H:Hp) (E:XK),PSs (cxN c P w K mg base [sf,at_] qual (a_8 st) f zn A outer s H E) (d_7 st) (cm_9 C fl)):FnX P w K mg base c (k + 1) f fd [sf,at_] (af_6 C fl):=by
 refine Fun.okX F S (fun vs H Q E h=> ?_) fun zn A outer s H vs Q E hr h=>⟨_,zj zn A outer s H E, ?_⟩
 ·obtain⟨a,v,us,rfl,_⟩:=h
  rfl
 ·obtain⟨a,v,us,rfl,ha,q⟩:=h
  exact⟨a,v,us,rfl,rfl,ha,q⟩
theorem af_7{h:Heap}:∀{bm:List Value},OwnTail h bmVE bm→bm.contains (.type "BaseException")=true
 |_, .base=>by decide
 |_, .own _ _ _ t=>by rw [List.contains_cons,af_7 t,Bool.or_true]
structure XC(P:Program)(w:World)(K:Frag)(mg:Str→Option Value)(base:Heap)(c:Str)(f:Str)(C:Addr):Prop where
 at_:ClsAt K c C
 glob:mg c=some (.ref C)
 kp:keepIn K (.ref C)=true
 xc:XCls K C
 made:∃(fI:Addr) (fd:FuncData) (ps:List Str) (oI:Obj),XMk K C fI∧K.lookup fI=some oI∧oI.cls= .type "function" ∧FnX P w K mg base false 1 fI fd ps (af_6 C f)∧Binds K fd ps []
section
variable{X:Cx}{zd:List (Addr×Obj)}{σ:Sg}{H:Hp}{s:Shared}{C:Addr}{c f:Str}
theorem ca_0{e d:Addr}{o0 o1 x:HO}:upd (upd (upd H e o0) d x) e o1=upd (upd H d x) e o1:=by
 funext b
 unfold upd
 by_cases z:b=e
 ·rw [if_pos z,if_pos z]
 ·rw [if_neg z,if_neg z,if_neg z]
theorem bt_6{u:Value}{Q:Value→Shared→Prop}{E:Value→Shared→Prop}(M:XC X.prog X.w X.K X.mg X.base c f C)(hr:RoomC false 2 X.A)(I:Inv X zd σ H s)(r:RelV v u)
  (h:∀a d t s',H a=none→H d=none→d≠a→s.heap.objs.size≤a→Inv X zd σ (upd (upd H d (.xd [(f,v)])) a (XE a ⟨.ref C,some d, .fields #[.ref t, .none, .none, .none, .bool false, .none], #[]⟩)) s'→Q (.ref a) s'):
  wpAny (model X.prog X.w) X.A (call (.ref C) [u]) Q E s:=by
 obtain⟨fI,fd,ps,oI,⟨nm,q,N,bs,bm,sn,sub,ab,col,dd,k0,k1,k2,k3,k5,mN,lc,tl,hn,hi⟩,lI,hI,F,hb⟩:=M.made
 have KX:=I.kIn
 obtain⟨hh,g,dr,tk,os⟩:=s
 refine bx_0 PySem.F.excBase_ValueError (tl hh KX) (KX _ _ lc) (hn hh KX) hi (KX _ _ lI) hI (fun h' e me ze=> ?_) (by show 1≤sizeLine;rw [sizeLine_eq];omega)
 obtain⟨kk,new,t,et,_,_⟩:=me
 have I2:Inv X zd σ (upd H e (XE e ⟨.ref C,none, .fields #[.ref t, .none, .none, .none, .bool false, .none], #[]⟩)) ⟨h',g,dr,tk,os⟩:=I.laid (h':=h') (t':=tk) kk ze (XE.ok et)
 have he:H e=none:=I.hok.fresh ze
 have r2:Vals [.ref e,v] [.ref e,u]:= .cons rfl (.cons r .nil)
 have sp:af_6 C f [.ref e,v] (upd H e (XE e ⟨.ref C,none, .fields #[.ref t, .none, .none, .none, .bool false, .none], #[]⟩)) (fun y H2=>y= .non∧∃d,H d=none∧d≠e∧H2=upd (upd H d (.xd [(f,v)])) e (XE e ⟨.ref C,some d, .fields #[.ref t, .none, .none, .none, .bool false, .none], #[]⟩)) (fun _ _ _=>False):=
  ⟨e,v,_,rfl,b_6,fun d hd ne=>⟨rfl,d,by rw [b_0 ne] at hd;exact hd,ne,ca_0⟩⟩
 have hl: [Value.ref e,u].length=ps.length:=F.len _ _ _ _ sp
 have hb':=hb ⟨h',g,dr,tk,os⟩ [.ref e,u] I2.kIn (by rw [List.append_nil];exact hl)
 rw [List.append_nil] at hb'
 refine wpAny_call (codeAny_mono (F.run _ X.stack _ _ ⟨[.ref e,u], []⟩ [.ref e,u] [.ref e,v] _ _ (hr.make C [u] []) (I2.env0.make C [u] []) hb' r2 sp) fun r s' hq=> ?_)
 cases r with
 |error x=>
  obtain⟨a,C',dx,T,H',_,_,_,_,_,_,_,_,_,_,z⟩:=hq
  exact z.elim
 |ok fl=>
  cases fl with
  |ret y=>
   obtain⟨v',H',I3,rv,ev,d,hd,ne,eH⟩:=I2.after hq
   subst ev eH
   exact⟨rv,h e d t s' he hd ne ze I3⟩
  |next=>exact False.elim hq
  |brk=>exact False.elim hq
  |cont=>exact False.elim hq
def Lk1(X:Cx)(EX:EXS):Prop:=∀(zd:List (Addr×Obj)) (σ:Sg) (H H':Hp) (s s':Shared) (a C:Addr) (dx:Option Addr) (o:Obj) (us:Array Value),Inv X zd σ H s→Inv X zd σ H' s'→s'.heap.get? a=some o→o.cls= .ref C→o.dict=dx→o.data= .fields us→us[1]? =some .none→
 H' a=none→s.heap.objs.size≤a→EXE X.K (EX σ) (.ref C) dx H'→X.xe (.ref a) s'
theorem ac_7{cm:Bool}{w:World}{N:List Str}{qual:Str}{scope:Scope}{f:Addr}{cd:Value}{A:Around}{outer:List Env}{s:Shared}{E:XK}:
  Lk1 (cxN cm P w K mg base N qual scope f cd A outer s H E) (fun _=>EXof K E):=fun zd σ H H' s s' a C dx o us I I' he hc hx hd h1 n1 z1 q=>av_7 I I' he hc hx hd h1 n1 z1 q.of
def u_4(c f:Str)(js:List Nat)(fe:FE):FS:=fun Δ=>match fe (vsh (gsome js Δ)) with
 | .ok w=> .ex ⟨c, [f], [w.d]⟩ (gsome js Δ)
 | .ex x=> .ex x (gsome js Δ)
 | .no=> .no
theorem ac_8{EX:EXS}(js:List Nat){e:Expr}{fe:FE}{np zf pos:Pos}(M:XC X.prog X.w X.K X.mg X.base c f C)(hr:RoomC true 2 X.A)(l1:Lk1 X EX)(he:ED X EX e fe)(hg:Gl X c:=by rfl)(hdb:(c ==("__debug__" :Str))=false:=by decide)
  (hs:starEach [e] X.env=(false,eval e X.env)::starEach [] X.env:=by rfl) (hpl:(backTo zf (starEach [] X.env)).any (·.1)=false:=by rfl):
  SD X EX (.Raise (some (.Call (.Name c np) [e] [] zf)) none pos) (u_4 c f js fe):=by
 intro zd s σ H D I q
 obtain⟨H0,G0,G,Δ,O,E,q⟩:=q
 obtain⟨G',O',sg,E'⟩:=E.gsome js
 obtain⟨fI,fd,ps,oI,⟨nm,qn,N,bs,bm,sn,sub,ab,col,dd,k0,k1,k2,k3,k5,mN,lc,tl,hn,hi⟩,lI,hI,F,hb⟩:=M.made
 have hB:bm.contains (.type "BaseException")=true:=af_7 (tl s.heap I.kIn)
 rw [arm_exec_Raise]
 have tD0:tD X.K EX fe σ H fun v H1=>∃v' w G1, [v]= [v']∧fe (vsh (gsome js Δ))= .ok w∧Step G' H G1 H1∧Has X.K G1 v' w.d:=by
  refine⟨G',vsh (gsome js Δ),E'.st.gh,E'.gsh, ?_⟩
  unfold u_4 at q
  cases e1:fe (vsh (gsome js Δ)) with
  |ok w=>exact WP.intro fun v G1 H1 st r=>⟨v,w,G1,rfl,rfl,st,r⟩
  |ex x=>rw [e1] at q;exact q σ G' H O' E' sg
  |no=>rw [e1] at q;exact q
 have mk:wpAny (model X.prog X.w) X.A (eval (.Call (.Name c np) [e] [] zf) X.env) (fun v s1=>∃a t dx,v= .ref a∧s1.heap.get? C=some (excClassObj nm qn C N bs bm true sn sub ab col dd k0 k1 k2 k3 k5 "ValueError.__new__")∧
   s1.heap.get? a=some {cls:= .ref C,dict:=dx,data:= .fields #[.ref t, .none, .none, .none, .bool false, .none]}∧X.xe (.ref a) s1) X.xe s:=by
  refine wpAny_Call_Name_kw (q_3 I hg M.glob ?_ hdb)
  refine callWith_K (h₀:=X.base) I.ok.mod.kin M.kp (thn (o_9 he z_8 hs zf zd s σ H (fun vs H1=>∃v' w G1,vs= [v']∧fe (vsh (gsome js Δ))= .ok w∧Step G' H G1 H1∧Has X.K G1 v' w.d) I tD0) fun us s1 ⟨vs,H1,I1,r,v,w,G1,ev,ew,st,hv⟩=>⟨I1.kIn, ?_⟩) hs hpl
  subst ev
  obtain⟨u,rfl,ru⟩:=r.one
  refine bt_6 M hr.loose I1 ru fun a d t s2 ha hd ne za I2=> ?_
  have ga:=XE.get I2.hok b_6
  refine⟨a,t,some d,rfl,I2.kIn _ _ lc,ga, ?_⟩
  have I3:Inv X zd σ (upd H1 d (.xd [(f,v)])) s2:=Inv.forget I2 (by rw [b_0 ne.symm];exact ha)
  refine l1 zd σ H1 _ s1 s2 a C (some d) _ _ I1 I3 ga rfl rfl rfl rfl (by rw [b_0 ne.symm];exact ha) za ?_
  have st2:Step G1 H1 (upd G1 d (.xd [(f,v)])) (upd H1 d (.xd [(f,v)])):=Step.new st.gh hd _
  refine⟨⟨c, [f], [w.d]⟩,upd G1 d (.xd [(f,v)]),st2.gh, .with_ M.at_ b_6 rfl (.cons (hv.mono st2.gg) .nil), ?_⟩
  unfold u_4 at q
  rw [ew] at q
  exact q σ _ _ O' ((E'.grow st).grow st2) (sg.trans (st.gg.trans st2.gg))
 refine wpAny_bind (wpAny_standAt (as_6 hB (hr.hd rfl) (wpAny_bind (wpAny_mono mk (fun v s3 h3=>wpAny_bind (wpAny_standAt (wpAny_pure h3))) fun _ _ x=>x))))
end
section
variable{X:Cx}{zd:List (Addr×Obj)}{σ:Sg}{H:Hp}{s:Shared}
theorem x_8{M:Model}{A:Around}{E:Value→Shared→Prop}{i:Nat}{n:Str}{Q:Unit→Shared→Prop}(I:Inv X zd σ H s)(hN:X.N.Nodup)(hi:X.N[i]? =some n)(hk:X.env.scope.names.lookup n=some .local)
  (h:∀s',Inv X zd (σ.set i none) H s'→Q () s'):wpAny M A (do bindName X.env n .none;unbindBehindTheSuite X.env n pos) Q E s:=by
 obtain⟨m,hn,hl⟩:=id I.loc
 have cj:(X.env.scope.kind == .class || (X.env.scope.kind == .module && X.env.locals != X.env.globals))=false:=by rw [I.ok.kind];rfl
 have hiσ:i < σ.length:=by rw [I.len];exact(List.getElem?_eq_some_iff.mp hi).1
 have cne:=I.cne
 have tracked:∀{a:Addr} {h':Heap},(∃o,s.heap.get? a=some o∧H a=none)→Heap.SameBut a s.heap h'→HOk X.prog X.w H h':=fun{a h'} ha hs b ob e=>by
  obtain⟨_,_,ao⟩:=ha
  refine(I.hok b ob e).stay (fun c w' hc q=>(hs.2 c ?_).trans q) (fun _ q=>q) fun _ _ q=>q
  rintro rfl
  rcases hc with rfl|hc
  ·rw [ao] at e;cases e
  ·rw [ao] at hc;cases hc
 refine wpAny_nameGoes_keeps hk hn cj fun h' v hn' hs=> ?_
 obtain⟨oL,_,_,hoL,_⟩:=id hn
 refine h _ ⟨I.ok,I.os,I.bare,⟨fun b o e n hb hx=> ?_,fun b o e n hb hx=> ?_,I.base.free,fun b o e hx=> ?_,I.base.tups,I.base.frzs,I.base.tbls⟩,⟨_,hn',fun j y v' e1 e2 e3=> ?_⟩,fun y c e=> ?_,I.free,I.freeC,fun p hp=> ?_,tracked ⟨oL,hoL,I.free⟩ hs,by simpa using I.len⟩
 ·exact(hs.2 b (Nat.ne_of_lt (Nat.lt_of_lt_of_le (Heap.lt_size e) I.ok.above))).trans (I.base.keep b o e n hb hx)
 ·obtain⟨sl,e1⟩:=I.base.slot b o e n hb hx
  exact⟨sl,(hs.2 b (Nat.ne_of_lt (Nat.lt_of_lt_of_le (Heap.lt_size e) I.ok.above))).trans e1⟩
 ·obtain⟨o',e1⟩:=I.base.there b o e hx
  exact⟨o',(hs.2 b (Nat.ne_of_lt (Nat.lt_of_lt_of_le (Heap.lt_size e) I.ok.above))).trans e1⟩
 ·by_cases hj:j=i
  ·subst hj
   rw [List.getElem?_set_self hiσ] at e2
   cases e2
  ·rw [List.getElem?_set_ne (Ne.symm hj)] at e2
   obtain⟨u',r',q⟩:=hl j y v' e1 e2 e3
   refine⟨u',r', ?_⟩
   rcases q with⟨k,e⟩|⟨k,c,e,z⟩
   ·refine .inl ⟨k, ?_⟩
    have:y≠n:=fun e=>hj (ak_8 hN e1 (e▸hi))
    simp [this,e]
   ·exact .inr ⟨k,c,e,z.sameBut hs (cne y c e)⟩
 ·obtain⟨w',z⟩:=I.cell y c e
  exact⟨w',z.sameBut hs (cne y c e)⟩
 ·obtain⟨e,n,ne,nf,d⟩:=I.pin p hp
  exact⟨(hs.2 p.1 ne).trans e,n,ne,nf,d⟩
theorem Inv.speak{H':Hp}{s':Shared}{a C:Addr}{dx:Option Addr}{us:Array Value}{sl:Array (Option Value)}(I:Inv X zd σ H s)(I':Inv X zd σ H' s')(za:s.heap.objs.size≤a)(e:s'.heap.get? a=some ⟨.ref C,dx, .fields us,sl⟩)(hn:H' a=none):Inv X zd σ (upd H' a (XO a C dx)) s':=by
 have B:=I'.base
 have ns:∀b o,X.s₀.heap.get? b=some o→b≠a:=fun b o q z=>absurd (Nat.lt_of_lt_of_le (Heap.lt_size q) (Nat.le_trans I.sz za)) (by rw [z];exact Nat.lt_irrefl _)
 have lt:∀b:Addr,b < s.heap.objs.size→b≠a:=fun b h z=>absurd (Nat.lt_of_lt_of_le h za) (by rw [z];exact Nat.lt_irrefl _)
 have up:∀b u,H' b=some u→upd H' a (XO a C dx) b=some u:=fun b u q=>by rw [b_0 (b_8 q hn)];exact q
 refine⟨I'.ok,I'.os,I'.bare,⟨B.keep,B.slot,fun b o q n x=>by rw [b_0 (ns b o q)];exact B.free b o q n x,B.there,fun b xs q=>up _ _ (B.tups b xs q),fun b o u q=>up _ _ (B.frzs b o u q),fun b ps q=>let⟨m,z⟩:=B.tbls b ps q;⟨m,up _ _ z⟩⟩,I'.loc,I'.cell, ?_,fun x c q=> ?_,fun p hp=> ?_,fun b u q=> ?_,I'.len⟩
 ·rw [b_0 (lt _ I.lt)];exact I'.free
 ·obtain⟨v,hv⟩:=I.cell x c q
  rw [b_0 (lt _ hv.lt)];exact I'.freeC x c q
 ·obtain⟨p1,p2,p3⟩:=I'.pin p hp
  exact⟨p1,by rw [b_0 (lt _ (Heap.lt_size (I.pin p hp).1))];exact p2,p3⟩
 ·by_cases z:b=a
  ·subst z
   rw [b_6] at q
   cases q
   exact XO.ok e
  ·rw [b_0 z] at q
   exact(I'.hok b u q).stay (fun _ _ _ q=>q) (fun c q=>up _ _ q) fun c xs q=>up _ _ q
end
def tryB(X:Cx)(zd:List (Addr×Obj))(W:Value→Shared→Prop):Cx:={X with pn:=X.pn ++ zd,xe:=W}
def hand(X:Cx)(e:Value):Cx:={X with A:=X.A.mark (some e),calm:=false,xe:=fun _ _=>False}
section
variable{X:Cx}{zd ai:List (Addr×Obj)}{σ:Sg}{H:Hp}{s:Shared}{W:Value→Shared→Prop}{e:Value}
theorem ok_tryB:(tryB X zd W).Ok↔X.Ok:=⟨fun ok=>⟨ok.mod,ok.kind,ok.glob,ok.blt,ok.above,ok.inj,ok.has,ok.cab,ok.hd,ok.frames,ok.stk,ok.exf,ok.bs,ok.bsz,ok.noex,ok.exfs,ok.funs,ok.frf⟩,
 fun ok=>⟨ok.mod,ok.kind,ok.glob,ok.blt,ok.above,ok.inj,ok.has,ok.cab,ok.hd,ok.frames,ok.stk,ok.exf,ok.bs,ok.bsz,ok.noex,ok.exfs,ok.funs,ok.frf⟩⟩
theorem Inv.toB(I:Inv X zd σ H s):Inv (tryB X zd W) [] σ H s:=⟨ok_tryB.mpr I.ok,I.os,I.bare,I.base,I.loc,I.cell,I.free,I.freeC,fun p hp=>I.pin p (by have hp:p∈(X.pn ++ zd) ++ []:=hp;rwa [List.append_nil] at hp),I.hok,I.len⟩
theorem Inv.ofB(I:Inv (tryB X zd W) ai σ H s):Inv X zd σ H s:=⟨ok_tryB.mp I.ok,I.os,I.bare,I.base,I.loc,I.cell,I.free,I.freeC,fun p hp=>I.pin p (List.mem_append_left _ hp),I.hok,I.len⟩
theorem SP.ofB{D:Ends}{f:Flow}(h:SP (tryB X zd W) ai D f s):SP X zd D f s:=by
 cases f with
 |next=>obtain⟨σ',H',I,q⟩:=h;exact⟨σ',H',Inv.ofB I,q⟩
 |brk=>obtain⟨σ',H',I,q⟩:=h;exact⟨σ',H',Inv.ofB I,q⟩
 |cont=>obtain⟨σ',H',I,q⟩:=h;exact⟨σ',H',Inv.ofB I,q⟩
 |ret u=>obtain⟨v,σ',H',I,r,q⟩:=h;exact⟨v,σ',H',Inv.ofB I,r,q⟩
theorem Inv.toH(I:Inv X zd σ H s):Inv (hand X e) zd σ H s:=
 ⟨⟨I.ok.mod,I.ok.kind,I.ok.glob,I.ok.blt,I.ok.above,I.ok.inj,I.ok.has,I.ok.cab,fun z=>absurd z Bool.false_ne_true,I.ok.frames,I.ok.stk,I.ok.exf,I.ok.bs,I.ok.bsz,I.ok.noex,I.ok.exfs,I.ok.funs,I.ok.frf⟩,I.os,I.bare,I.base,I.loc,I.cell,I.free,I.freeC,I.pin,I.hok,I.len⟩
theorem Inv.ofH(ok:X.Ok)(I:Inv (hand X e) zd σ H s):Inv X zd σ H s:=⟨ok,I.os,I.bare,I.base,I.loc,I.cell,I.free,I.freeC,I.pin,I.hok,I.len⟩
end
def ca_1(i:Nat):Fl→Fl
 | .nx Δ=> .nx (Δ.set i .no)
 | .bk Δ=> .bk (Δ.set i .no)
 | .ct Δ=> .ct (Δ.set i .no)
 | .rt w=> .rt w
 |_=> .no
def Catches(K:Frag)(C2:Addr)(tb:List (Str×Bool)):Prop:=∀c b,tb.lookup c=some b→∀C,ClsAt K c C→exmOne K (.ref C) (.ref C2)=some b
theorem Ev.drop{H0:HB}{G0 G H:Hp}{σ:Sg}{Δ:SE}{O:OS}(E:Ev K H0 G0 G H σ Δ O)(i:Nat):Ev K H0 G0 G H (σ.set i none) (Δ.set i .no) O:=by
 refine⟨E.st,by rw [List.length_set,List.length_set];exact E.len,fun j d e=> ?_,fun j z d e zo=> ?_,E.out,E.dj,fun j d e=> ?_,fun j d e=> ?_⟩
 ·rcases g_5 e with⟨rfl,q⟩|⟨n,q⟩
  ·cases q
  ·rw [List.getElem?_set_ne n];exact E.sh j d q
 ·rcases g_5 e with⟨rfl,q⟩|⟨n,q⟩
  ·subst q;cases zo
  ·rw [List.getElem?_set_ne n];exact E.ow j z d q zo
 ·rcases g_5 e with⟨rfl,q⟩|⟨n,q⟩
  ·cases q
  ·rw [List.getElem?_set_ne n];exact E.lk j d q
 ·rcases g_5 e with⟨rfl,q⟩|⟨n,q⟩
  ·cases q
  ·rw [List.getElem?_set_ne n];exact E.lt j d q
section
variable{X:Cx}{EX:EXS}{i:Nat}{tb:List (Str×Bool)}{g h:FS}{c n:Str}{C2:Addr}{body ah:List Stmt}{b₀:Stmt}{np hp pos:Pos}
theorem Has.exc{G:Hp}{a C:Addr}{dx:Option Addr}{x:Xn}(hn:G a=none)(e:ExcAt K G (.ref C) dx x):Has K (upd G a (XO a C dx)) (.ref a) (.exn x.c x.ns x.vs):=by
 cases e with
 |bare hc=>exact .exn0 hc b_6
 |with_ hc hd hl r=>exact .exn1 hc b_6 (by rw [b_0 (b_8 hd hn)];exact hd) hl (r.mono (j_7 hn _))
theorem ca_2{H0:HB}{G0 G1:Hp}{D:Ends}{r:Fl}(q:Fin K EX H0 G0 G1 D (ca_1 i r)):Fin K l_5 H0 G0 G1 {nx:=fun σ H=>D.nx (σ.set i none) H,rt:=D.rt,bk:=fun σ H=>D.bk (σ.set i none) H,ct:=fun σ H=>D.ct (σ.set i none) H} r:=by
 cases r with
 |nx Δ=>exact fun σ G H O E sg=>q _ G H O (E.drop i) sg
 |bk Δ=>exact fun σ G H O E sg=>q _ G H O (E.drop i) sg
 |ct Δ=>exact fun σ G H O E sg=>q _ G H O (E.drop i) sg
 |rt w=>exact q
 |ex x Δ=>exact q.elim
 |no=>exact q
end
structure XGet(K:Frag)(C:Addr)(f:Str):Prop where
 ga:findIn K (.ref C) "__getattribute__" =some (some (.builtin "BaseException.__getattribute__"))
 gt:findIn K (.ref C) "__getattr__" =some none
 be:mroIn K C (.type "BaseException")=some true
 hd:hasDictIn K C=true
 no:findIn K (.ref C) f=some none
section
variable{prog:Program}{w:World}{A:Around}{E:Value→Shared→Prop}{s:Shared}{K:Frag}{x C dx:Addr}{f:Str}
theorem ca_3{expr:Bool}{Q:Value→Shared→Prop}{ox:Obj}{mA:Str→Option Value}{v:Value}(X:K.In s.heap)(hx:s.heap.get? x=some ox)(hc:ox.cls= .ref C)(hdx:ox.dict=some dx)(hnc:notCls ox=true)(hn:s.heap.Ns1 dx mA)(g:XGet K C f)
  (hv:mA f=some v) (hh:handedIn v=true) (h:Q v {s with toks:=s.toks + 1}):wpAny (model prog w) A (getAttr (.ref x) f expr) Q E s:=by
 obtain⟨od,ho,hl⟩:=ar_7 hn
 have I:InstAt s.heap x ox C (some od):=⟨hx,hc,hnc,by rw [hdx];exact ho⟩
 obtain⟨hp,gg,d,t,os⟩:=s
 have L0:=I.type (M:=model prog w)
 have L1:=looks_findIn (M:=model prog w) X g.ga
 have L2:=looks_findIn (M:=model prog w) X g.gt
 have LF:=looks_find (M:=model prog w) X I (findObj_own g.hd g.no rfl (by rw [hl,hv]))
 have sub:Looks (model prog w) hp (isInstance (.ref x) (.type "BaseException")) true:=L0.andThen (looks_mroIn X g.be)
 have SL:=PySem.F.attr_ValueError.ga
 have hx0:(expr && onTheHeap (Value.builtin "BaseException.__getattribute__"))=false:=by cases expr <;> rfl
 unfold getAttr getAttrBy
 refine wpAny_bind (wpAny_mkText (wpAny_holding (wpAny_bind (L0.at (wpAny_bind (L1.at ?_))))))
 show wpAny _ _ (getAttrByItsOwn _ _ _ _ _ _) _ _ _
 unfold getAttrByItsOwn
 refine wpAny_bind (L2.at (wpAny_bind (wpAny_attempt ?_)))
 refine wpAny_holding ?_
 unfold callGetattribute
 rw [hx0,if_neg Bool.false_ne_true]
 unfold boundAndCalled
 rw [SL.bind]
 refine wpAny_bind (wpAny_pure (wpAny_call (codeAny_call_builtin SL.plain PySem.F.entry_bexc_ga (@check_slot (model prog w) _ _ ⟨hp,gg,d,t + 1,os⟩ "BaseException.__getattribute__" "BaseException" "__getattribute__" (.ref x) [.str f t] [] _ (by decide +kernel) (by decide +kernel) sub (PySem.F.args_bexc_ga _ _) ?_))))
 refine wpAny_bind (wpAny_pure (wpAny_bind (wpAny_pure (wpAny_bind (L0.at (wpAny_bind (LF.at ?_)))))))
 refine wpAny_pure ?_
 show wpAny _ _ (handedOut v) _ _ _
 rw [handedOut_of hh]
 exact wpAny_pure h
structure XInst(K:Frag)(C:Addr):Prop where
 ga:findIn K (.ref C) "__getattribute__" =some (some (.builtin "BaseException.__getattribute__"))
 gt:findIn K (.ref C) "__getattr__" =some none
 be:mroIn K C (.type "BaseException")=some true
 hd:hasDictIn K C=true
 cl:findIn K (.ref C) "__class__" =some (some (.builtin "object.__class__"))
 gs:specialIn K (.builtin "object.__class__") "__get__" =some (some (.builtin "getset_descriptor.__get__"))
 tk:takesIn K (.builtin "object.__class__")=some true
 ob:mroIn K C (.type "object")=some true
end
theorem bf_5{G:Hp}{f:Str}{d:D}:∀{ns:List Str} {us:List V} {vs:List D},HasL K G us vs→(ns.zip vs).lookup f=some d→∃v,(ns.zip us).lookup f=some v∧Has K G v d
 | [],_,_,_,e=>by simp at e
 |n::ns,_,_, .nil,e=>by simp at e
 |n::ns,_,_, .cons h r,e=>by
  rw [List.zip_cons_cons,List.lookup_cons] at e⊢
  cases z:(f ==n) with
  |true=>rw [z] at e;cases e;exact⟨_,rfl,h⟩
  |false=>rw [z] at e;exact bf_5 r e
def eAttr(cs:List Str)(f:Str)(fo:FE):FE:=fun δ=>(fo δ).bind fun w=>match w.d with
 | .exn c ns vs=>if cs.contains c=true then(match(ns.zip vs).lookup f with|some d=> .ok (.sh d)|none=> .no) else .no
 |_=> .no
def XGets(K:Frag)(cs:List Str)(f:Str):Prop:=∀c∈cs,∀C,ClsAt K c C→XGet K C f
section
variable{X:Cx}{EX:EXS}{o:Expr}{fo:FE}{f:Str}{cs:List Str}{pos:Pos}
theorem cj_8(g:XGets X.K cs f)(he:ED X EX o fo)(hb:attributeBase o f X.env (eval o X.env)=eval o X.env:=by rfl):ED X EX (.Attribute o f pos) (eAttr cs f fo):=by
 intro zd s σ H Q I q
 obtain⟨G,δ,g0,s0,q⟩:=q
 refine bm_8 hb (thn (he zd s σ H (fun v H1=>∃G1 w,Step G H G1 H1∧Has X.K G1 v w.d∧fo δ= .ok w) I ⟨G,δ,g0,s0, ?_⟩) fun u s1 ⟨v,H1,I1,rv,G1,w,st,hv,ew⟩=> ?_)
 ·unfold eAttr at q
  cases e:fo δ with
  |ok w=>exact WP.intro fun v G1 H1 st r=>⟨G1,w,st,r,rfl⟩
  |ex x=>rw [e] at q;exact q
  |no=>rw [e] at q;exact q
 ·have q2:Out X.K (EX σ) G H (match w.d with
   | .exn c ns vs=>if cs.contains c=true then(match(ns.zip vs).lookup f with|some d=> .ok (.sh d)|none=> .no) else .no
   |_=> .no) Q:=by
   unfold eAttr at q
   rw [ew] at q
   exact q
  clear q
  revert hv q2
  cases w.d with
  |exn c ns vs=>
   intro hv q2
   have q2:Out X.K (EX σ) G H (if cs.contains c=true then(match(ns.zip vs).lookup f with|some d=> .ok (.sh d)|none=> .no) else .no) Q:=q2
   split at q2
   ·rename_i hc
    cases el:(ns.zip vs).lookup f with
    |none=>rw [el] at q2;exact q2.elim
    |some d=>
     rw [el] at q2
     cases hv with
     |exn0 _ _=>cases el
     |exn1 hc1 h1 hd1 hl1 r1=>
      rename_i a C dd us
      obtain rfl:u=Value.ref a:=rv
      obtain⟨y,ey,hy⟩:=bf_5 r1 el
      obtain⟨⟨us',sl,eo⟩,_⟩:=I1.hok a _ (st.gh _ _ h1)
      obtain⟨mA,hn,hr⟩:=I1.hok dd _ (st.gh _ _ hd1)
      have hrf:=hr f
      rw [ey] at hrf
      cases em:mA f with
      |none=>rw [em] at hrf;exact hrf.elim
      |some z=>
       rw [em] at hrf
       have rz:RelV y z:=hrf
       exact ca_3 I1.kIn eo rfl rfl rfl hn (g c (List.contains_iff_mem.mp hc) C hc1) em (ar_8 rz) ⟨y,H1,I1.tok _,rz,WP.use (WP.mono st q2) st.gh hy⟩
   ·exact q2.elim
  |_=>intro _ q2;exact False.elim q2
end
def eIsC(tb:List (Str×Bool))(fo:FE):FE:=fun δ=>(fo δ).bind fun w=>match w.d with
 | .exn c _ _=>(match tb.lookup c with|some b=> .ok (.sh (.bl b))|none=> .no)
 |_=> .no
def IsOne(K:Frag)(v:Value)(tb:List (Str×Bool)):Prop:=∀c b,tb.lookup c=some b→∀C,ClsAt K c C→XInst K C∧kitOne K (.ref C) v=some b
def IsAny(K:Frag)(Cs:List Addr)(tb:List (Str×Bool)):Prop:=∀c b,tb.lookup c=some b→∀C,ClsAt K c C→XInst K C∧kitAny K (.ref C) (Cs.map Value.ref)=some b
section
variable{X:Cx}{EX:EXS}{zd:List (Addr×Obj)}{σ:Sg}{G H:Hp}{s:Shared}
variable{a:Expr}{fo:FE}{tb:List (Str×Bool)}{pp pos:Pos}
end
theorem RoomC.units{c:Bool}{k:Nat}{A:Around}(r:RoomC c k A):A.units + 64 < cLine:=by have:=r.un;omega
section
variable{X:Cx}{c:Bool}{k:Nat}{zd:List (Addr×Obj)}{W:Value→Shared→Prop}{e:Value}
theorem ca_4(h:RoomC c k (Cx.A X)):RoomC c k (Cx.A (tryB X zd W)):=h
theorem ca_5(h:Cx.calm X=true):Cx.calm (Cx.nox X)=true:=h
theorem f_3{cm:Bool}{w:World}{N:List Str}{qual:Str}{scope:Scope}{f:Addr}{cd:Value}{A:Around}{outer:List Env}{s:Shared}{E:XK}:
  PassesOwn (model P w) (Cx.A (cxN cm P w K mg base N qual scope f cd A outer s H E)) (Cx.env (cxN cm P w K mg base N qual scope f cd A outer s H E)) (Cx.xe (cxN cm P w K mg base N qual scope f cd A outer s H E)):=
 fun e s' h=>wpAny_leaving_again (SameStack.refl _) h
theorem Catches.one{C2:Addr}{c:Str}{C:Addr}{b:Bool}(a:ClsAt K c C)(h:exmOne K (.ref C) (.ref C2)=some b){tb:List (Str×Bool)}(r:Catches K C2 tb):Catches K C2 ((c,b)::tb):=fun c' b' e C' a'=>by
 rw [List.lookup_cons] at e
 cases z:(c' ==c) with
 |true=>
  rw [z] at e
  cases e
  have:c'=c:=eq_of_beq z
  subst this
  unfold ClsAt at a a'
  rw [a] at a'
  cases a'
  exact h
 |false=>rw [z] at e;exact r c' b' e C' a'
theorem Catches.nil{C2:Addr}:Catches K C2 []:=fun _ _ e=>by cases e
theorem IsOne.nil{v:Value}:IsOne K v []:=fun _ _ e=>by cases e
theorem IsOne.one{v:Value}{c:Str}{C:Addr}{b:Bool}(a:ClsAt K c C)(x:XInst K C)(h:kitOne K (.ref C) v=some b){tb:List (Str×Bool)}(r:IsOne K v tb):IsOne K v ((c,b)::tb):=fun c' b' e C' a'=>by
 rw [List.lookup_cons] at e
 cases z:(c' ==c) with
 |true=>
  rw [z] at e
  cases e
  have:c'=c:=eq_of_beq z
  subst this
  unfold ClsAt at a a'
  rw [a] at a'
  cases a'
  exact⟨x,h⟩
 |false=>rw [z] at e;exact r c' b' e C' a'
theorem IsAny.nil{v:List Addr}:IsAny K v []:=fun _ _ e=>by cases e
theorem IsAny.one{v:List Addr}{c:Str}{C:Addr}{b:Bool}(a:ClsAt K c C)(x:XInst K C)(h:kitAny K (.ref C) (v.map Value.ref)=some b){tb:List (Str×Bool)}(r:IsAny K v tb):IsAny K v ((c,b)::tb):=fun c' b' e C' a'=>by
 rw [List.lookup_cons] at e
 cases z:(c' ==c) with
 |true=>
  rw [z] at e
  cases e
  have:c'=c:=eq_of_beq z
  subst this
  unfold ClsAt at a a'
  rw [a] at a'
  cases a'
  exact⟨x,h⟩
 |false=>rw [z] at e;exact r c' b' e C' a'
theorem XGets.nil{f:Str}:XGets K [] f:=fun _ e=>by cases e
theorem XGets.one{f c:Str}{C:Addr}(a:ClsAt K c C)(x:XGet K C f){cs:List Str}(r:XGets K cs f):XGets K (c::cs) f:=fun c' e C' a'=>by
 rcases List.mem_cons.mp e with rfl|e
 ·unfold ClsAt at a a'
  rw [a] at a'
  cases a'
  exact x
 ·exact r c' e C' a'
end
structure Hd where
 i:Option Nat
 tb:List (Str×Bool)
 h:FS
def hdGo(d:Hd)(x:Xn)(Δ:SE):Fl:=match d.i with
 |some i=>ca_1 i (d.h (Δ.set i (.sh (.exn x.c x.ns x.vs))))
 |none=>(match d.h Δ with
  | .ex _ _=> .no
  |r=>r)
def tryH:List Hd→Xn→SE→Fl
 | [],_,_=> .no
 |d::r,x,Δ=>match d.tb.lookup x.c with
  |some true=>hdGo d x Δ
  |some false=>tryH r x Δ
  |none=> .no
def bf_6(g:FS)(hs:List Hd):FS:=fun Δ=>match g Δ with
 | .ex x Δ1=>tryH hs x Δ1
 |r=>r
inductive HOk3(X:Cx):List ExceptHandler→List Hd→Prop where
 |nil:HOk3 X [] []
 |as_ {c n:Str} {C2:Addr} {b₀:Stmt} {ah:List Stmt} {np hp:Pos} {i:Nat} {tb:List (Str×Bool)} {h:FS} {hs:List ExceptHandler} {ds:List Hd} (hc:X.mg c=some (.ref C2)) (ct:Catches X.K C2 tb) (hh:∀e,BD (hand X e) l_5 (b₀::ah) h) (r:HOk3 X hs ds)
   (hi:X.N[i]? =some n:=by rfl) (hk:X.env.scope.names.lookup n=some .local:=by rfl) (hg:Gl X c:=by rfl) (hdb:(c ==("__debug__" :Str))=false:=by decide):
   HOk3 X (.ExceptHandler (some (.Name c np)) (some n) (b₀::ah) hp::hs) (⟨some i,tb,h⟩::ds)
 |bare {c:Str} {C2:Addr} {b₀:Stmt} {ah:List Stmt} {np hp:Pos} {tb:List (Str×Bool)} {h:FS} {hs:List ExceptHandler} {ds:List Hd} (hc:X.mg c=some (.ref C2)) (ct:Catches X.K C2 tb) (hh:∀e,BD (hand X e) l_5 (b₀::ah) h) (r:HOk3 X hs ds)
   (hg:Gl X c:=by rfl) (hdb:(c ==("__debug__" :Str))=false:=by decide):
   HOk3 X (.ExceptHandler (some (.Name c np)) none (b₀::ah) hp::hs) (⟨none,tb,h⟩::ds)
def EXh(K:Frag)(EX:EXS)(D:Ends)(ds:List Hd):EXS:=fun σ=>⟨fun x G H=>∃H0 G0 Δ O,Ev K H0 G0 G H σ Δ O∧Fin K EX H0 G0 G D (tryH ds x Δ),
 fun _ _ _ _ _ s ⟨H0,G0,Δ,O,E,f⟩=>⟨H0,G0,Δ,O,E.grow s,Fin.mono s.gg f⟩⟩
theorem ck_0{EX:EXS}{H0:HB}{G0 G1:Hp}{D:Ends}{r:Fl}(q:Fin K EX H0 G0 G1 D (match r with| .ex _ _=> .no|r=>r)):Fin K l_5 H0 G0 G1 {nx:=D.nx,rt:=D.rt,bk:=D.bk,ct:=D.ct} r:=by
 cases r with
 |nx Δ=>exact q
 |bk Δ=>exact q
 |ct Δ=>exact q
 |rt w=>exact q
 |ex x Δ=>exact q.elim
 |no=>exact q
section
variable{X:Cx}{EX:EXS}{g:FS}{body:List Stmt}{pos:Pos}
theorem bt_7(hN:X.N.Nodup){zd:List (Addr×Obj)}{D:Ends}{a C T2:Addr}{dx:Option Addr}{σ1 σ0:Sg}{H1 H2:Hp}{s1 s2:Shared}{h2:Heap}{x:Xn}{H0':HB}{G2 G0':Hp}{Δ1:SE}{O1:OS}{oa:Obj}{ua:Array Value}
  (J1:Inv X zd σ0 H1 s1) (J4:Inv X zd σ1 (upd H2 a (XO a C dx)) {s2 with heap:=h2}) (st4:Step G2 H2 (upd G2 a (XO a C dx)) (upd H2 a (XO a C dx)))
  (n1:H2 a=none) (sg2:Same G2 H2) (ea:ExcAt X.K G2 (.ref C) dx x) (LT:Looks (model X.prog X.w) h2 (typeOf (.ref a)) (.ref C)) (hcC:ClsAt X.K x.c C)
  (E1:Ev X.K H0' G0' G2 H2 σ1 Δ1 O1)
  (flt:∀{A:Around} {E:Value→Shared→Prop} {Q:Unit→Shared→Prop},(∀h3,Inv X zd σ1 (upd H2 a (XO a C dx)) {s2 with heap:=h3}→Q () {s2 with heap:=h3})→wpAny (model X.prog X.w) A (setFlight (.ref a) none) Q E {s2 with heap:=h2}):
  ∀{hs:List ExceptHandler} {ds:List Hd},HOk3 X hs ds→Fin X.K EX H0' G0' G2 D (tryH ds x Δ1)→wpAny (model X.prog X.w) X.A (handleBy (.ref a) X.env hs) (SP X zd D) X.xe {s2 with heap:=h2}:=by
 intro hs ds ho
 induction ho with
 |nil=>intro q;exact False.elim q
 |as_ hc ct hh r hi hk hg hdb ih=>
  rename_i c n C2 b₀ ah np hp i tb h hs ds
  intro q
  refine wpAny_handleBy_cons (codeAny_handlers_test ?_) (by intro z;cases z)
  refine q_3 (X:=hand X (.ref a)) (Inv.toH J4) hg hc ?_ hdb
  unfold tryH at q
  cases e2:tb.lookup x.c with
  |none=>simp only [e2] at q;exact q.elim
  |some b=>
   have em:=ct _ _ e2 C hcC
   refine Looks.here (s:={s2 with heap:=h2}) (exm_one J4.kIn LT em) ?_
   cases b with
   |false=>simp only [e2] at q;exact ih q
   |true=>
    simp only [e2,hdGo] at q
    show codeAny _ _ _ _ _
    refine codeAny_handlers_suite_as (flt fun h3 J5=> ?_)
    refine ak_9 (X:=hand X (.ref a)) (v:= .ref a) (Inv.toH J5) hN hi (.inl hk) rfl (fun s6 I6=> ?_) (.inr hk)
    have E6:=(E1.grow st4).put (i:=i) (Has.exc (sg2.free n1) ea)
    refine wpAny_mono (hh (.ref a) zd s6 _ _ _ I6 ⟨H0',G0',_,_,O1,E6,ca_2 (Fin.mono st4.gg q)⟩) (fun f s7 h7=> ?_) fun _ _ z=>False.elim z
    show wpAny _ X.A (do bindName X.env n .none;unbindBehindTheSuite X.env n hp) (fun _ s₃=>SP X zd D f s₃) _ s7
    cases f with
    |next=>
     obtain⟨σ7,H7,I7,q7⟩:=h7
     exact x_8 (Inv.ofH J1.ok I7) hN hi hk fun s8 I8=>⟨_,H7,I8,q7⟩
    |brk=>
     obtain⟨σ7,H7,I7,q7⟩:=h7
     exact x_8 (Inv.ofH J1.ok I7) hN hi hk fun s8 I8=>⟨_,H7,I8,q7⟩
    |cont=>
     obtain⟨σ7,H7,I7,q7⟩:=h7
     exact x_8 (Inv.ofH J1.ok I7) hN hi hk fun s8 I8=>⟨_,H7,I8,q7⟩
    |ret u=>
     obtain⟨v,σ7,H7,I7,r7,q7⟩:=h7
     exact x_8 (Inv.ofH J1.ok I7) hN hi hk fun s8 I8=>⟨v,_,H7,I8,r7,q7⟩
 |bare hc ct hh r hg hdb ih=>
  rename_i c C2 b₀ ah np hp tb h hs ds
  intro q
  refine wpAny_handleBy_cons (codeAny_handlers_test ?_) (by intro z;cases z)
  refine q_3 (X:=hand X (.ref a)) (Inv.toH J4) hg hc ?_ hdb
  unfold tryH at q
  cases e2:tb.lookup x.c with
  |none=>simp only [e2] at q;exact q.elim
  |some b=>
   have em:=ct _ _ e2 C hcC
   refine Looks.here (s:={s2 with heap:=h2}) (exm_one J4.kIn LT em) ?_
   cases b with
   |false=>simp only [e2] at q;exact ih q
   |true=>
    simp only [e2,hdGo] at q
    show codeAny _ _ _ _ _
    refine codeAny_handlers_suite (flt fun h3 J5=> ?_)
    have E6:=E1.grow st4
    refine wpAny_mono (hh (.ref a) zd {s2 with heap:=h3} _ _ _ (Inv.toH J5) ⟨H0',G0',_,_,O1,E6,ck_0 (Fin.mono st4.gg q)⟩) (fun f s7 h7=> ?_) fun _ _ z=>False.elim z
    cases f with
    |next=>
     obtain⟨σ7,H7,I7,q7⟩:=h7
     exact⟨_,H7,Inv.ofH J1.ok I7,q7⟩
    |brk=>
     obtain⟨σ7,H7,I7,q7⟩:=h7
     exact⟨_,H7,Inv.ofH J1.ok I7,q7⟩
    |cont=>
     obtain⟨σ7,H7,I7,q7⟩:=h7
     exact⟨_,H7,Inv.ofH J1.ok I7,q7⟩
    |ret u=>
     obtain⟨v,σ7,H7,I7,r7,q7⟩:=h7
     exact⟨v,_,H7,Inv.ofH J1.ok I7,r7,q7⟩
theorem ck_1{hd0:ExceptHandler}{hs0:List ExceptHandler}{ds:List Hd}(hN:X.N.Nodup)(hfr:X.env.frame=some X.env.locals)(hst:X.stack=X.env::X.outer)(hb:∀zd W EXB,Lk (tryB X zd W) EXB→BD (tryB X zd W) EXB body g)(ho:HOk3 X (hd0::hs0) ds):
  SD X EX (.Try body (hd0::hs0) [] [] pos) (bf_6 g ds):=by
 intro zd s σ H D I q
 obtain⟨H0,G0,G,Δ,O,E,q⟩:=q
 refine wpAny_Try_except ?_
 have lk:Lk (tryB X zd fun e s₁=>wpAny (model X.prog X.w) X.A (noteFrame e X.env) (fun _ s₂=>wpAny (model X.prog X.w) X.A (setFlight e none) (fun _ s₃=>wpAny (model X.prog X.w) X.A (handleBy e X.env (hd0::hs0)) (SP X zd D) X.xe s₃) X.xe s₂) X.xe s₁) (EXh X.K EX D ds):=by
  intro ai σ1 H1 s1 e s2 I1 cx
  obtain⟨a,C,dx,T,H2,rfl,I2,tr,n1,n2,z1,z2,x,G2,sg2,ea,H0',G0',Δ1,O1,E1,f1⟩:=Inv.raised I1 cx
  show wpAny _ X.A (noteFrame (.ref a) X.env) _ _ s2
  have J1:=Inv.ofB I1
  have J2:=Inv.ofB I2
  refine as_5 (outer:=X.outer) (by rw [←hst];exact J2.ok.frames) (by rw [←hst];exact J2.stack) hfr tr fun h1 T2 z3 k1 t1=> ?_
  refine q_5 t1 fun h2 k2 t2=> ?_
  have zT2:H2 T2=none:=J2.hok.fresh z3
  have J3:Inv X zd σ1 H2 {s2 with heap:=h2}:=by
   refine Inv.settle (ch:= [a,T] ++ [T2]) J1 J2 (fun b hb=> ?_) ?_
   ·have:b=a∨b=T∨b=T2:=by simpa using hb
    rcases this with rfl|rfl|rfl
    ·exact⟨z1,n1⟩
    ·exact⟨z2,n2⟩
    ·exact⟨Nat.le_trans z1 (Nat.le_trans (Nat.le_of_lt (Heap.lt_size tr.ob.choose_spec.choose_spec.1)) z3),zT2⟩
   ·rw [hst];exact k1.trans (KeepX.of_same k2)
  obtain⟨⟨oa,ua,ga,gc,gd,gf,g1⟩,ne,tbk⟩:=id t2
  have goa:h2.get? a=some ⟨.ref C,dx, .fields ua,oa.slots⟩:=by
   obtain⟨c1,d1,e1,s1⟩:=oa
   simp only at gc gd gf
   subst gc gd gf
   exact ga
  have J4:Inv X zd σ1 (upd H2 a (XO a C dx)) {s2 with heap:=h2}:=Inv.speak J1 J3 z1 goa n1
  have st4:Step G2 H2 (upd G2 a (XO a C dx)) (upd H2 a (XO a C dx)):=Step.new sg2 n1 _
  have LT:Looks (model X.prog X.w) h2 (typeOf (.ref a)) (.ref C):=gc▸(Looks.ld ga).andThen .now
  obtain⟨hcC⟩:Nonempty (ClsAt X.K x.c C):=by cases ea with|bare hc=>exact⟨hc⟩|with_ hc _ _ _=>exact⟨hc⟩
  refine bt_7 (oa:=oa) (ua:=ua) (T2:=T2) hN J1 J4 st4 n1 sg2 ea LT hcC E1 (fun{A E Q} hq=> ?_) ho f1
  refine q_5 t2 fun h3 k3 t3=>hq h3 ?_
  refine Inv.settle (ch:= [T2]) (s':={s2 with heap:=h2}) J1 J4 (fun b hb=> ?_) (KeepX.of_same k3)
  have:b=T2:=by simpa using hb
  subst this
  exact⟨Nat.le_trans z1 (Nat.le_trans (Nat.le_of_lt (Heap.lt_size tr.ob.choose_spec.choose_spec.1)) z3),by rw [b_0 ne];exact zT2⟩
 refine wpAny_mono (hb zd _ _ lk [] s σ H D (Inv.toB I) ⟨H0,G0,G,Δ,O,E, ?_⟩) (fun f s1 hs=> ?_) fun _ _ z=>z
 ·unfold bf_6 at q
  cases e1:g Δ with
  |ex x Δ1=>
   rw [e1] at q
   exact fun σ1 G1 H1 O1 E1 sg=>⟨H0,G0,Δ1,O1,E1,Fin.mono sg q⟩
  |nx Δ1=>rw [e1] at q;exact q
  |bk Δ1=>rw [e1] at q;exact q
  |ct Δ1=>rw [e1] at q;exact q
  |rt w=>rw [e1] at q;exact q
  |no=>rw [e1] at q;exact q
 ·have hs':=SP.ofB hs
  cases f with
  |next=>exact wpAny_execs_nil hs'
  |brk=>exact hs'
  |cont=>exact hs'
  |ret u=>exact hs'
end
section
variable{prog:Program}{w:World}{A:Around}{E:Value→Shared→Prop}{h:Heap}{g:Array GenState}{d:Drawn}{t:Nat}{os:OsState}
variable{nm q:Str}{C N:Addr}{bs bm bmB:List Value}{bb:Bool}{sn:List Str}{sub:List Value}{ab:Bool}{col:Option Bool}{dd:Option Addr}{k0 k1 k2 k3 k5:Option Value}{B newId ag:String}
theorem bk_9(FB:ExcBaseFacts B newId ag bmB)(T:OwnTail h bmB bm){mN:Str→Option Value}{Q:PySem.Fin→Shared→Prop}
  (hC:h.get? C=some (excClassObj nm q C N bs bm bb sn sub ab col dd k0 k1 k2 k3 k5 newId)) (hn:h.Ns N mN) (hi:mN "__init__" =none)
  (z:∀h' e,Heap.MadeExcOf h h' e (.ref C) []→h.objs.size≤e→Q (.done (.ret (.ref e))) ⟨h',g,d,t,os⟩):
  wpAny (model prog w) A (Builtin.«type.__call__» ⟨[.ref C], []⟩) Q E ⟨h,g,d,t,os⟩:=by
 wp_walk using wpAny_loadPart_at hC,wpAny_madeBy_exc hC
 refine codeAny_call_builtin_code (Code.quiet_builtin _ FB.quiet) (wpAny_check_new_subT FB T hC ?_)
 refine codeAny_exc_new_subT FB T hC ?_ (by show 0≤sizeLine;exact Nat.zero_le _)
 show wpAny _ _ _ _ _ _
 generalize e1:({cls:= .type "tuple",data:= .seq ([]:List Value).toArray}:Obj)=o1
 generalize e2:({cls:= .ref C,data:= .fields #[.ref h.objs.size, .none, .none, .none, .bool false, .none]}:Obj)=o2
 have up:∀b o,h.get? b=some o→((h.push o1).push o2).get? b=some o:=fun b o e=>Heap.get?_push_of_some _ (Heap.get?_push_of_some _ e)
 have ge:((h.push o1).push o2).get? (h.objs.size + 1)=some o2:=by
  have:=Heap.get?_push_size (h.push o1) (o:=o2) (by rw [←e2];rfl)
  rwa [Heap.size_push] at this
 have hC1:=up _ _ hC
 have hn1:((h.push o1).push o2).Ns N mN:=hn.keeps up
 have T1:=T.keeps up
 have cl:o2.cls= .ref C:=by rw [←e2]
 have hcC:List.contains (Value.ref C::bm) (.ref C)=true:=List.contains_iff_mem.mpr (.head _)
 unfold isInstance
 repeat (first|(with_reducible refine wpAny_loadPart_at ge ?_;rw [cl])|(with_reducible refine wpAny_isSubtype_exc hC1 ?_;rw [hcC])|wp_step)
 show wpAny _ _ (typeLookup (.ref C) _) _ _ _
 refine wpAny_typeLookup_tail hC1 hn1 T1 FB.mroIs FB.init.lookup ?_
 rw [hi]
 refine wpAny_holding (wpAny_bind (wpAny_of_eq (FB.init.bind _) ?_))
 refine wpAny_bind (wpAny_call (codeAny_call_builtin FB.init.plain FB.initEntry (wpAny_check_init_subT FB T1 hC1 ge cl ?_)))
 subst e1 e2
 wp_walk
 refine z _ (h.objs.size + 1) ⟨fun b o hb=> ?_,Heap.get?_none_of_le (Nat.le_succ _),h.objs.size + 2, ?_,Heap.get?_none_of_le (by omega), ?_⟩ (Nat.le_succ _)
 ·rw [Heap.get?_update_other _ _ (Ne.symm (Nat.ne_of_lt (Nat.lt_succ_of_lt (Heap.lt_size hb))))]
  exact Heap.get?_push_of_some _ (up b o hb)
 ·rw [Heap.get?_update_self _ (Heap.get?_push_of_some _ ge) rfl,Heap.size_push,Heap.size_push]
  rfl
 ·rw [Heap.get?_update_other _ _ (Nat.ne_of_lt (Nat.lt_succ_self (h.objs.size + 1)))]
  exact Heap.get?_push_at (by rw [Heap.size_push,Heap.size_push]) rfl
theorem bt_8(FB:ExcBaseFacts B newId ag bmB)(T:OwnTail h bmB bm){mN:Str→Option Value}{Q:Value→Shared→Prop}
  (hC:h.get? C=some (excClassObj nm q C N bs bm bb sn sub ab col dd k0 k1 k2 k3 k5 newId)) (hn:h.Ns N mN) (hi:mN "__init__" =none)
  (z:∀h' e,Heap.MadeExcOf h h' e (.ref C) []→h.objs.size≤e→Q (.ref e) ⟨h',g,d,t,os⟩):
  wpAny (model prog w) A (call (.ref C) []) Q E ⟨h,g,d,t,os⟩:=by
 have f1:=tc_lookup
 have f2:=tc_bind (.ref C)
 have isT:Shared.TypeIs ⟨h,g,d,t,os⟩ (.ref C) "type" :=⟨_,hC,rfl⟩
 refine wpAny_call (codeAny_of_tree (?_:wpAny _ _ (callAny (.ref C) _) _ _ _))
 wp_walk using wpAny_loadPart_at hC
 refine⟨rfl, ?_⟩
 exact codeAny_call_builtin_at (Code.quiet_builtin _ (by decide +kernel)) entry_typeCall (wpAny_check_type_call_sub hC (bk_9 FB T hC hn hi z))
end
def XMk0(K:Frag)(C:Addr):Prop:=∃(nm q:Str) (N:Addr) (bs bm:List Value) (sn:List Str) (sub:List Value) (ab:Bool) (col:Option Bool) (dd:Option Addr) (k0 k1 k2 k3 k5:Option Value) (mN:Str→Option Value),
 K.lookup C=some (excClassObj nm q C N bs bm true sn sub ab col dd k0 k1 k2 k3 k5 "ValueError.__new__")∧(∀h:Heap,K.In h→OwnTail h bmVE bm)∧(∀h:Heap,K.In h→h.Ns N mN)∧mN "__init__" =none
theorem ck_2{C N L:Addr}{nm q:Str}{bs:List Value}{sn:List Str}{sub:List Value}{ab:Bool}{col:Option Bool}{dd:Option Addr}{k0 k1 k2 k3 k5:Option Value}{oc c0 oL:Value}{od ddL odL:Option Addr}{es esL:Array DictEntry}{ep epL:Nat}{sl sl0 slL:Array (Option Value)}{cd:ClassData}
  (lc:K.lookup C=some (excClassObj nm q C N bs (.ref L::bmVE) true sn sub ab col dd k0 k1 k2 k3 k5 "ValueError.__new__")) (ln:K.lookup N=some ⟨oc,od, .dict es ep,sl⟩) (kn:g_4 es=true) (hi:nsFind es "__init__" =none)
  (ll:K.lookup L=some ⟨c0,ddL, .cls cd,sl0⟩) (lm:K.lookup cd.ns=some ⟨oL,odL, .dict esL epL,slL⟩) (km:g_4 esL=true) (hL:nsFind esL "__init__" =none):XMk0 K C:=
 ⟨nm,q,N,bs,_,sn,sub,ab,col,dd,k0,k1,k2,k3,k5,nsFind es,lc,fun h X=> .own (X _ _ ll) (bo_9 lm km X) hL .base,fun h X=>bo_9 ln kn X,hi⟩
structure XC0(K:Frag)(mg:Str→Option Value)(c:Str)(C:Addr):Prop where
 at_:ClsAt K c C
 glob:mg c=some (.ref C)
 kp:keepIn K (.ref C)=true
 made:XMk0 K C
def bp_0(c:Str):FS:=fun Δ=> .ex ⟨c, [], []⟩ Δ
section
variable{X:Cx}{C:Addr}{c:Str}
theorem bt_9{EX:EXS}{np zf pos:Pos}(M:XC0 X.K X.mg c C)(hr:RoomC true 2 X.A)(l1:Lk1 X EX)(hg:Gl X c:=by rfl)(hdb:(c ==("__debug__" :Str))=false:=by decide):
  SD X EX (.Raise (some (.Call (.Name c np) [] [] zf)) none pos) (bp_0 c):=by
 intro zd s σ H D I q
 obtain⟨H0,G0,G,Δ,O,E,q⟩:=q
 obtain⟨nm,qn,N,bs,bm,sn,sub,ab,col,dd,k0,k1,k2,k3,k5,mN,lc,tl,hn,hi⟩:=M.made
 have hB:bm.contains (.type "BaseException")=true:=af_7 (tl s.heap I.kIn)
 rw [arm_exec_Raise]
 have mk:wpAny (model X.prog X.w) X.A (eval (.Call (.Name c np) [] [] zf) X.env) (fun v s1=>∃a t dx,v= .ref a∧s1.heap.get? C=some (excClassObj nm qn C N bs bm true sn sub ab col dd k0 k1 k2 k3 k5 "ValueError.__new__")∧
   s1.heap.get? a=some {cls:= .ref C,dict:=dx,data:= .fields #[.ref t, .none, .none, .none, .bool false, .none]}∧X.xe (.ref a) s1) X.xe s:=by
  refine wpAny_Call_Name_kw (q_3 I hg M.glob ?_ hdb)
  refine callWith_K0 I.kIn M.kp ?_
  have KX:=I.kIn
  obtain⟨hh,gg,dr,tk,os⟩:=s
  refine bt_8 PySem.F.excBase_ValueError (tl hh KX) (KX _ _ lc) (hn hh KX) hi fun h' a me za=> ?_
  obtain⟨kk,new,t,et,_,_⟩:=me
  have I2:Inv X zd σ H ⟨h',gg,dr,tk,os⟩:=I.kept (h':=h') (t':=tk) kk
  refine⟨a,t,none,rfl,I2.kIn _ _ lc,et, ?_⟩
  exact l1 zd σ H H ⟨hh,gg,dr,tk,os⟩ ⟨h',gg,dr,tk,os⟩ a C none _ _ I I2 et rfl rfl rfl rfl (I.hok.fresh za) za ⟨⟨c, [], []⟩,G,E.st.gh, .bare M.at_,q σ G H O E (Same.refl _)⟩
 refine wpAny_bind (wpAny_standAt (as_6 hB (hr.hd rfl) (wpAny_bind (wpAny_mono mk (fun v s3 h3=>wpAny_bind (wpAny_standAt (wpAny_pure h3))) fun _ _ x=>x))))
end
end L3
namespace L3
open PySem L2
variable{K:Frag}{fd:FuncData}{mg:Str→Option Value}{P:Program}{vs:List V}{us:List Value}{base:Heap}{H:Hp}{X:Cx}{pos:Pos}{v:V}
abbrev Ai{a b:Prop}(x:a)(y:b):a∧b:=⟨x,y⟩
def evs:=Ai @bodyD.eq_1 (Ai @start3.eq_1 (Ai @sSeq.eq_1 (Ai @sSet.eq_1 (Ai @gsome.eq_1 (Ai @give1.eq_1 (Ai @List.foldl_cons.{0,0} (Ai @List.foldl_nil.{0,0} (Ai @sRet.eq_1 (Ai @sRetV.eq_1 (Ai @sIf.eq_1 (Ai @sExpr.eq_1 (Ai @sNil.eq_1 (Ai @vsh.eq_1 (Ai @vall.eq_1 (Ai @gall.eq_1 (Ai @bz_9 (Ai @cs_8 (Ai @cs_9 (Ai @ct_0 (Ai @ct_1 (Ai @ct_2 (Ai @cj_4 (Ai @cj_5 (Ai @cj_6 (Ai @eOp.eq_1 (Ai @eVar.eq_1 (Ai @eC.eq_1 (Ai @eTest.eq_1 (Ai @eTruth.eq_1 (Ai @truthD.eq_1 (Ai @truthD.eq_2 (Ai @truthD.eq_3 (Ai @truthD.eq_4 (Ai @truthD.eq_5 (Ai @truthD.eq_6 (Ai @truthD.eq_7 (Ai @boolD.eq_1 (Ai @boolD.eq_2 (Ai @eCall.eq_1 (Ai @eFn.eq_1 (Ai @R.calm_ok (Ai @R.calm_no (Ai @R.calm_ex (Ai @sPut.eq_1 (Ai @sPut.eq_2 (Ai @sPut.eq_3 (Ai @sPut.eq_4 (Ai @sPut.eq_5 (Ai @eAttr.eq_1 (Ai @eIsC.eq_1 (Ai @isND.eq_1 (Ai @isND.eq_2 (Ai @nonB.eq_1 (Ai @nonB.eq_2 (Ai @aNil.eq_1 (Ai @aCons.eq_1 (Ai @eTup.eq_1 (Ai @eLst.eq_1 (Ai @eIf.eq_1 (Ai @eAnd.eq_1 (Ai @eOr.eq_1 (Ai @eNot.eq_1 (Ai @tAndF.eq_1 (Ai @tOrF.eq_1 (Ai @tNotF.eq_1 (Ai @eIs.eq_1 (Ai @be_1 (Ai @bk_3 (Ai @be_2 (Ai @be_3 (Ai @be_4 (Ai @be_5 (Ai @ax_1 (Ai @be_6 (Ai @ax_2 (Ai @ax_3 (Ai @ax_4 (Ai @ax_5 (Ai @be_7 (Ai @bk_4 (Ai @be_8 (Ai @be_9 (Ai @bf_0 (Ai @bf_1 (Ai @ax_6 (Ai @bf_2 (Ai @ax_7 (Ai @ax_8 (Ai @ax_9 (Ai @ay_0 (Ai @ap_7 (Ai @ay_1 (Ai @ap_8 (Ai @ap_9 (Ai @aq_0 (Ai @aq_1 (Ai @eSlice.eq_1 (Ai @oNone.eq_1 (Ai @oSome.eq_1 (Ai @intPart.eq_1 (Ai @intPart.eq_2 (Ai @eMeth.eq_1 (Ai @eMeth0.eq_1 (Ai @tyD.eq_1 (Ai @tyD.eq_2 (Ai @tyD.eq_3 (Ai @tyD.eq_4 (Ai @iArgs.eq_1 (Ai @iOf.eq_1 (Ai @itemsD.eq_1 (Ai @itemsD.eq_2 (Ai @itemsD.eq_3 (Ai @itemsD.eq_4 (Ai @R.bind_ok (Ai @R.bind_no (Ai @R.bind_ex (Ai @W.d_sh (Ai @W.d_ow (Ai @List.map_cons.{0,0} (Ai @List.map_nil.{0,0} (Ai @List.cons_append.{0} (Ai @List.nil_append.{0} (Ai @List.append_nil.{0} (Ai @List.replicate_succ.{0} (Ai @List.replicate_zero.{0} (Ai @List.length_cons.{0} (Ai @List.length_nil.{0} (Ai @List.set_cons_zero.{0} (Ai @List.set_cons_succ.{0} (Ai @List.getElem?_cons_zero.{0} (Ai @List.getElem?_cons_succ.{0} (Ai @if_true.{1} (Ai @if_false.{1} (Ai @flatD.eq_1 (Ai @flatD.eq_2 (Ai @flatD.eq_3 (Ai @flatD.eq_4 (Ai @flatD.eq_5 (Ai @Bool.false_eq_true (Ai @Bool.not_true (Ai @Bool.not_false (Ai @Bool.true_and (Ai @Bool.false_and (Ai @Nat.zero_add (Ai @decide_true (Ai @decide_false (Ai @gC.eq_1 (@gV.eq_1))))))))))))))))))))))))))))))))))))))))))))))))))))))))))))))))))))))))))))))))))))))))))))))))))))))))))))))))))))))))))))))))))))))))))))))))))))
end L3
namespace L3
open PySem PySem.Spec PyProof.Rows L2
variable{K:Frag}{fd:FuncData}{mg:Str→Option Value}{P:Program}{vs:List V}{us:List Value}{base:Heap}{H:Hp}{X:Cx}{pos:Pos}{v:V}
abbrev HBd(c:Bool)(P:Program)(w:World)(K:Frag)(mg:Str→Option Value)(base:Heap)(N:List Str)(qual:Str)(st:Stmt)(f:Addr)(k:Nat)(g:FS):Prop:=∀{zn:Value} {A:Around} {outer:List Env} {s:Shared} {H:Hp} {E:XK},(cxN c P w K mg base N qual (a_8 st) f zn A outer s H E).calm=c→RoomC c k (Cx.A (cxN c P w K mg base N qual (a_8 st) f zn A outer s H E))→(Cx.A (cxN c P w K mg base N qual (a_8 st) f zn A outer s H E)).units + 64 < cLine→N.Nodup→Lk (cxN c P w K mg base N qual (a_8 st) f zn A outer s H E) (fun _=>EXof K E)→
   BD (cxN c P w K mg base N qual (a_8 st) f zn A outer s H E) (fun _=>EXof K E) (d_7 st) g
theorem e_2{c:Bool}{w:World}{x qual:Str}{st:Stmt}{f:Addr}{N ps:List Str}{k:Nat}{g:FS}(F:Fun K x qual st f fd)
  (zj:HBd c P w K mg base N qual st f k g) (S:FnScope N ps (a_8 st):=by exact⟨rfl,rfl,rfl,by decide +kernel,rfl,by decide +kernel,by decide +kernel⟩):FnX P w K mg base c (k + 1) f fd ps (spX K ps.length (bodyD N.length g)):=
 fn_D F S fun zn A outer s H E hr=>zj rfl hr (RoomC.units hr) S.nd bx_6
theorem cn_0{c:Bool}{w:World}{x qual cn:Str}{st:Stmt}{f C:Addr}{N ps:List Str}{k n:Nat}{g:FS}(F:Fun K x qual st f fd)(hC:ClsAt K cn C)(hn:ps.length=n + 1)(hle:ps.length≤N.length)
  (zj:HBd c P w K mg base N qual st f k g) (S:FnScope N ps (a_8 st):=by exact⟨rfl,rfl,rfl,by decide +kernel,rfl,by decide +kernel,by decide +kernel⟩):FnX P w K mg base c (k + 1) f fd ps (spI K C n (at_6 N.length cn g)):=
 fn_I F S hC hn hle fun zn A outer s H E hr=>zj rfl hr (RoomC.units hr) S.nd bx_6
def FnAt(K:Frag)(x qual:Str)(st:Stmt)(f:Addr):Prop:=∃fd,Fun K x qual st f fd
theorem FnAt.mk{x qual:Str}{st:Stmt}{f:Addr}{oc kV dc pm cd ct:Value}{od an:Option Addr}{sl:Array (Option Value)}
  (l:K.lookup f=some ⟨oc,od, .func (fnOf x qual (g_1 st) (d_7 st) (a_8 st) .none kV dc pm an cd ct),sl⟩) (c:codeIn K cd qual=true) (k:keepIn K (.ref f)=true):FnAt K x qual st f:=⟨_,al_5 l c k⟩
def FnTop(K:Frag)(x:Str)(st:Stmt):Prop:=∃f,nsIn K mainGlobals x=some (some (.ref f))∧FnAt K x x st f
theorem FnTop.mk{x:Str}{st:Stmt}{f:Addr}{oc kV dc pm cd ct:Value}{od an:Option Addr}{sl:Array (Option Value)}(a:nsIn K mainGlobals x=some (some (.ref f)))
  (l:K.lookup f=some ⟨oc,od, .func (fnOf x x (g_1 st) (d_7 st) (a_8 st) .none kV dc pm an cd ct),sl⟩) (c:codeIn K cd x=true) (k:keepIn K (.ref f)=true):FnTop K x st:=⟨f,a,FnAt.mk l c k⟩
def FnMet(K:Frag)(C:Addr)(x qual:Str)(st:Stmt):Prop:=∃f,findIn K (.ref C) x=some (some (.ref f))∧FnAt K x qual st f∧keepIn K (.ref f)=true∧isFn K (.ref f)=true
theorem FnMet.mk{C:Addr}{x qual:Str}{st:Stmt}{f:Addr}{oc kV dc pm cd ct:Value}{od an:Option Addr}{sl:Array (Option Value)}(a:findIn K (.ref C) x=some (some (.ref f)))
  (l:K.lookup f=some ⟨oc,od, .func (fnOf x qual (g_1 st) (d_7 st) (a_8 st) .none kV dc pm an cd ct),sl⟩) (c:codeIn K cd qual=true) (k:keepIn K (.ref f)=true) (i:isFn K (.ref f)=true):FnMet K C x qual st:=⟨f,a,FnAt.mk l c k,k,i⟩
section
variable{X:Cx}{EX:EXS}{pos:Pos}
end
def bf_7(l:List Int):List Int:=l.mergeSort fun a b=>decide (a≤b)
theorem bf_8{l r:List Int}(hp:r.Perm l)(hs:r.Pairwise (· ≤ ·)):bf_7 l=r:=by
 have h1:(bf_7 l).Pairwise (fun a b=>(decide (a≤b))=true):=List.pairwise_mergeSort (le:=fun a b=>decide (a≤b)) (fun a b c h1 h2=>decide_eq_true (Int.le_trans (of_decide_eq_true h1) (of_decide_eq_true h2))) (fun a b=>by
  rcases Int.le_total a b with h|h
  ·simp [h]
  ·simp [h]) l
 refine List.Perm.eq_of_pairwise (le:=fun a b:Int=>a≤b) (fun a b _ _ h1 h2=>Int.le_antisymm h1 h2) (h1.imp fun h=>of_decide_eq_true h) hs ?_
 exact(List.mergeSort_perm l _).trans hp.symm
def at_9:List D→R W
 | [.lst ds]=>(match ac_3 ds with
  |some is=>if is.length < 64 then .ok (.ow (.lst ((bf_7 is).map fun i=> .int i))) else .no
  |none=> .no)
 |_=> .no
theorem au_0:∀{us:List Value} {is:List Int},IntsAre us is→Vals (is.map fun i=>V.int i) us
 |_,_, .nil=> .nil
 |_,_, .cons n t r=> .cons ⟨t,rfl⟩ (au_0 r)
theorem bf_9{G:Hp}:∀is:List Int,HasL K G (is.map fun i=>V.int i) (is.map fun i=>D.int i)
 | []=> .nil
 |_::r=> .cons (.int _) (bf_9 r)
section
variable{X:Cx}{EX:EXS}{pos:Pos}
theorem bl_0(_hc:X.calm=true):ab_5 X (.builtin "sorted") at_9:=by
 intro zd s σ H vs us Q I rv q
 obtain⟨EX,G,ds,g,r,o⟩:=q
 cases r with
 |nil=>exact False.elim o
 |cons h t=>
  cases t with
  |cons _ _=>cases h <;> exact False.elim o
  |nil=>
   cases h with
   |lst h r=>
    rename_i l _ _
    simp only [at_9] at o
    split at o
    ·rename_i is e
     split at o
     ·rename_i hl
      obtain⟨u,rfl,ru⟩:=rv.one
      cases ru
      obtain⟨its,rv',pl,hz⟩:=I.list (g.seq h)
      have ia:=am_2 r rv' e
      have il:its.length=is.length:=ia.length
      refine sorted_ints pl.isList ia (by omega) fun out ns' a1 a2 a3=> ?_
      obtain⟨c,hat⟩:=sortedAll_at s.heap its out
      have en:bf_7 is=ns':=bf_8 a2 a3
      rw [en] at o
      have rv2:=au_0 a1
      have fr:=I.hok.fresh (Nat.le_succ s.heap.objs.size)
      refine⟨.ref _,upd H _ (.lst _),I.laid (t':=s.toks) (fun _ _=>sortedAll_old) (Nat.le_succ _) ⟨?_,out.toList,c,rv2,by simpa using hat⟩,rfl,q_4 o g (bf_9 ns') _ fr⟩
      rw [List.length_map,a2.length_eq,sizeLine_eq]
      omega
     ·exact o.elim
    ·exact o.elim
   |_=>exact False.elim o
end
section
variable{X:Cx}{EX:EXS}
end
end L3
namespace PySem
open PyProof.Rows (IsTup)
namespace F
end F
def Heap.IsRvd(h:Heap)(a t:Addr)(i:Int):Prop:=∃o,h.get? a=some o∧o.cls= .type "reversed" ∧o.data= .fields #[.ref t,rawInt i]
theorem Heap.IsRvd.kept{h h':Heap}{a l:Addr}{i:Int}(x:h.IsRvd a l i)(e:∀o,h.get? a=some o→h'.get? a=some o):h'.IsRvd a l i:=x.elim fun o z=>⟨o,e o z.1,z.2⟩
open AutoSeq1 (wpAny_loadPart')
section
variable{prog:Program}{w:World}{A:Around}{E:Value→Shared→Prop}{s:Shared}
theorem Heap.IsRvd.ty{a l:Addr}{i:Int}(x:s.heap.IsRvd a l i):s.TypeIs (.ref a) "reversed" :=x.elim fun o z=>⟨o,z.1,z.2.1⟩
end
end PySem
namespace L3
open PySem PySem.Spec PyProof.Rows L2
variable{K:Frag}{fd:FuncData}{mg:Str→Option Value}{P:Program}{vs:List V}{us:List Value}{base:Heap}{H:Hp}{X:Cx}{pos:Pos}{v:V}
theorem HasL.app{G:Hp}:∀{vs us:List V} {ds es:List D},HasL K G vs ds→HasL K G us es→HasL K G (vs ++ us) (ds ++ es)
 |_,_,_,_, .nil,h=>h
 |_,_,_,_, .cons a r,h=> .cons a (HasL.app r h)
theorem HasL.rev{G:Hp}:∀{vs:List V} {ds:List D},HasL K G vs ds→HasL K G vs.reverse ds.reverse
 |_,_, .nil=> .nil
 |_,_, .cons a r=>by rw [List.reverse_cons,List.reverse_cons];exact r.rev.app (.cons a .nil)
theorem Vals.app2:∀{vs vs':List V} {us us':List Value},Vals vs us→Vals vs' us'→Vals (vs ++ vs') (us ++ us')
 |_,_,_,_, .nil,h=>h
 |_,_,_,_, .cons a r,h=> .cons a (Vals.app2 r h)
theorem Vals.rev:∀{vs:List V} {us:List Value},Vals vs us→Vals vs.reverse us.reverse
 |_,_, .nil=> .nil
 |_,_, .cons a r=>by rw [List.reverse_cons,List.reverse_cons];exact Vals.app2 (Vals.rev r) (.cons a .nil)
section
variable{X:Cx}{EX:EXS}{a:Expr}{f:FE}{p p' pos pos':Pos}
end
theorem gcM{EX:EXS}{i:Nat}{x:Str}(hN:decide X.N.Nodup=true:=by kernel_rfl)(hi:X.N[i]? =some x:=by rfl)(hx:Loc X.env.scope x:=by first|exact Or.inl rfl|exact Or.inr rfl)
  (hf:X.fn x=true∨X.env.scope.names.lookup x=some .local:=by first|exact .inl rfl|exact .inr rfl|assumption):GC X EX (.Name x pos) (gC i):=ch_4 (of_decide_eq_true hN) hi hx hf
structure BaseI(K:Frag)(B f:Addr):Prop where
 sp:specialIn K (.ref B) "__getattribute__" =some (some (.builtin "type.__getattribute__"))
 rd:readsIn K B (.type "type")=true
 at_:findCls K (.ref B) (.type "type") "__init__" =some (.val (.ref f))
 kp:keepIn K (.ref f)=true
def MakB(P:Program)(w:World)(K:Frag)(mg:Str→Option Value)(base:Heap)(cc:Bool)(b c:Str)(k n:Nat)(F:List D→R (List Str×List D)):Prop:=
 ∃B C f fd ps,ClsAt K c C∧mg b=some (.ref B)∧BaseI K B f∧FnX P w K mg base cc k f fd ps (spI K C n F)∧Binds K fd ps []
def af_8(i:Nat)(c:Str)(js:List Nat)(F:List D→R (List Str×List D))(fe:FE):FS:=fun Δ=>match(gsome js Δ)[i]? with
 |some (.lt (.obj c' [] []))=>if c'=c then(match fe (vsh (gsome js Δ)) with
  | .ok w=>(match F [w.d] with
   | .ok p=> .nx ((gsome js Δ).set i (.lt (.obj c p.1 (p.2.map .sh))))
   |_=> .no)
  | .ex x=> .ex x (gsome js Δ)
  | .no=> .no) else .no
 |_=> .no
section
variable{X:Cx}{EX:EXS}{e:Expr}{es:List Expr}{x:Str}{pp zh pos:Pos}{cc:Bool}{k k' n:Nat}{ps:List Str}
theorem ca_6{sp:Sp}{t:TA}{B f:Addr}{pl:Sem Bool}(b:BaseI X.K B f)(hr:RoomC cc k X.A)(lk:Lk X EX)(ok:FnX X.prog X.w X.K X.mg X.base cc k f fd ps sp)(hb:Binds X.K fd ps [])(hm:X.mg x=some (.ref B))(hg:Gl X x)(hdb:(x ==("__debug__" :Str))=false)(ha:PA X (e::es) t)
  (hst:starEach (e::es) X.env=(false,eval e X.env)::starEach es X.env) (hpl:(backTo pos (starEach es X.env)).any (·.1)=false)
  (ht:eval (.Call (.Attribute (.Name x pp) "__init__" zh) (e::es) [] pos) X.env=(do
   let ov←eval (.Name x pp) X.env
   standAt zh.atName
   let(f,first)←holding [ov] (getMethod ov "__init__" pl)
   callWith pos f first (backTo pos (starEach (e::es) X.env)) (backToKw pos (keywordEach [] X.env)))):
  PE X (.Call (.Attribute (.Name x pp) "__init__" zh) (e::es) [] pos) (fun σ H Q=>t σ H fun vs H1=>sp vs H1 Q (EXE X.K (EX σ))):=by
 intro zd s σ H Q I q
 refine methodCall_KW (pl:=pl) (q_3 I hg hm ?_ hdb) ht
 refine method_cls I.kIn b.sp (cls_value I.kIn b.rd b.at_ rfl ?_)
 refine callWith_K (first:= []) (h₀:=X.base) I.ok.mod.kin b.kp (thn (ha pos zd _ σ H _ (I.tok _) q) fun us s1 ⟨vs,H1,I1,r,q⟩=>⟨I1.kIn, ?_⟩) hst hpl
 exact aj_3 ok hr hb lk I1 r q
theorem ca_7{i:Nat}{c y:Str}(js:List Nat){fe:FE}{F:List D→R (List Str×List D)}{p3 da:Pos}{pl:Sem Bool}(hr:RoomC cc k' X.A)(lk:Lk X EX)(h:MakB X.prog X.w X.K X.mg X.base cc x c k 1 F)(he:ED X EX e fe)(hk:k≤k':=by decide)
  (hN:X.N[i]? =some y:=by rfl) (hv:Vis X.env.scope y:=by first|exact Or.inl rfl|exact Or.inr (Or.inl rfl)|exact Or.inr (Or.inr rfl)) (hd:(y ==("__debug__" :Str))=false:=by decide) (hcd:(y ==("__classdict__" :Str))=false:=by decide)
  (hg:Gl X x:=by rfl) (hdb:(x ==("__debug__" :Str))=false:=by decide) (hs1:starEach [.Name y p3,e] X.env=(false,eval (.Name y p3) X.env)::starEach [e] X.env:=by rfl) (hs2:starEach [e] X.env=(false,eval e X.env)::starEach [] X.env:=by rfl)
  (hpl:(backTo pos (starEach [e] X.env)).any (·.1)=false:=by rfl) (ej:swapsWith (.Call (.Attribute (.Name x pp) "__init__" zh) [.Name y p3,e] [] pos) none da.line X.env=pure false:=by rfl)
  (ht:eval (.Call (.Attribute (.Name x pp) "__init__" zh) [.Name y p3,e] [] pos) X.env=(do
   let ov←eval (.Name x pp) X.env
   standAt zh.atName
   let(f,first)←holding [ov] (getMethod ov "__init__" pl)
   callWith pos f first (backTo pos (starEach [.Name y p3,e] X.env)) (backToKw pos (keywordEach [] X.env))):=by rfl):
  SD X EX (.Expr (.Call (.Attribute (.Name x pp) "__init__" zh) [.Name y p3,e] [] pos) da) (af_8 i c js F fe):=by
 obtain⟨B,C,f,fd,ps,hC,hm,b,ok,hb⟩:=h
 refine PS.imp (aj_2 (ca_6 b (hr.mono hk) lk ok hb hm hg hdb (o_9 (m_9 hN hv hd hcd) (o_9 he z_8 hs2) hs1) hs1 hpl ht) ej) fun D σ H ⟨H0,G0,G,Δ,O,E,q⟩=> ?_
 obtain⟨G1,O1,sg,E1⟩:=E.gsome js
 unfold af_8 at q
 generalize gsome js Δ=Δ1 at q E1
 split at q
 ·rename_i c' e1
  split at q
  ·rename_i hcc
   subst hcc
   obtain⟨v0,s1,t0⟩:=E1.ow i _ _ e1 rfl
   refine⟨v0,s1,G1,vsh Δ1,E1.st.gh,E1.gsh, ?_⟩
   cases e2:fe (vsh Δ1) with
   |ex y=>simp only [e2] at q;exact q σ G1 H O1 E1 sg
   |no=>simp only [e2] at q;exact q.elim
   |ok w=>
    simp only [e2] at q
    refine WP.intro fun v G2 H2 st r=> ?_
    have E2:=E1.grow st
    obtain⟨v1,s1',t⟩:=E2.ow i _ _ e1 rfl
    rw [s1] at s1'
    cases s1'
    have s2:=E2.lt i _ e1
    split at q
    ·rename_i p ef
     generalize et:(Tn.obj c' [] [])=tt at t
     cases t with
     | @obj a C2 dx c2 ns2 us ts2 S S1 hC2 h hl ha sub rl=>
      injection et with et1 et2 et3
      subst et1 et2 et3
      have:=hC.same hC2
      subst this
      have:us= []:=by cases us with|nil=>rfl|cons _ _=>simp at hl
      subst this
      have ga:=(E2.out i a ha).1
      refine⟨a,dx, [v],fun b=>if b=a then none else H2 b,G2, [w.d],rfl,rfl,if_pos rfl,fun b o z=> ?_,h,fun b o z=> ?_, .cons r .nil, ?_⟩
      ·simp only at z
       split at z
       ·cases z
       ·exact z
      ·simp only
       rw [if_neg (b_8 z ga)]
       exact E2.st.gh b o z
      rw [ef]
      intro G' H' us' dx' ms g' hx zk rr
      have nb:∀b,¬O1 i b→b≠a:=fun b nb w=>nb (by rw [w];exact ha)
      refine q σ G' H' _ (E2.step2 (S:=fun b=>b=a) (z:= .lt _) rfl (fun _ z=>by cases z) (fun _ _=>s2) ⟨fun b o n z=>ms.hh b o (by rw [if_neg (nb b n)];exact z),ms.gh,ms.gg,fun b n z1 z2=>ms.nw b z1 (by rw [if_neg (nb b n)];exact z2)⟩ s1 (fun b hb=> ?_) ?_) (sg.trans (st.gg.trans ms.gg))
      ·subst hb
       exact⟨.inl ha,g',by rw [hx];simp⟩
      ·exact .obj (S1:=fun _=>False) hC hx zk rfl (fun _ z=>z.elim) (OwL.of rr)
     |_=>cases et
    ·exact q.elim
  ·exact q.elim
 ·exact q.elim
end
def FnBase(K:Frag)(B:Addr)(qual:Str)(st:Stmt):Prop:=∃f,BaseI K B f∧FnAt K "__init__" qual st f
theorem FnBase.mk{B:Addr}{qual:Str}{st:Stmt}{f:Addr}{oc kV dc pm cd ct:Value}{od an:Option Addr}{sl:Array (Option Value)}(s:specialIn K (.ref B) "__getattribute__" =some (some (.builtin "type.__getattribute__")))(r:readsIn K B (.type "type")=true)
  (a:findCls K (.ref B) (.type "type") "__init__" =some (.val (.ref f)))
  (l:K.lookup f=some ⟨oc,od, .func (fnOf "__init__" qual (g_1 st) (d_7 st) (a_8 st) .none kV dc pm an cd ct),sl⟩) (c:codeIn K cd qual=true) (k:keepIn K (.ref f)=true):FnBase K B qual st:=⟨f,⟨s,r,a,k⟩,FnAt.mk l c k⟩
theorem Step.wr{G H G' H':Hp}{a:Addr}{o:HO}(s:Step G H G' H')(n:H a=none)(g:G' a=none):Step G H G' (L2.upd H' a o):=
 ⟨fun b u z=>by rw [b_0 (b_8 z n)];exact s.hh b u z,fun b u z=>by rw [b_0 (b_8 z g)];exact s.gh b u z,s.gg,s.nw⟩
def bg_0(fe f:FE):FS:=fun Δ=>match fe (vsh Δ) with
 | .ok (.ow (.lst ds))=>if ds.length < 16777216 then(match f (vsh Δ) with
  | .ok _=> .nx Δ
  |_=> .no) else .no
 |_=> .no
theorem ck_3{EX:EXS}{o e:Expr}{fe f:FE}{zh zf pos:Pos}(ho:ED X EX o fe)(he:ED X EX e f)
  (hsw:swapsWith (.Call (.Attribute o "append" zh) [e] [] zf) none pos.line X.env=pure false:=by rfl)
  (aa:attributeBase o "append" X.env (eval o X.env)=eval o X.env:=by rfl)
  (ba:((backTo zf (starEach [e] X.env)).all (fun x=> !x.1) && (backToKw zf (keywordEach [] X.env)).all (fun x=>x.1.isSome)
   && decide ([e].length + ([]:List Keyword).length + (if([]:List Keyword).isEmpty then 0 else 1) < 30))=true:=by rfl)
  (af:(zh.endLine ==zf.line)=true:=by rfl) (hs:starEach [e] X.env=(false,eval e X.env)::starEach [] X.env:=by rfl) (ae:(backTo zf (starEach [] X.env)).any (·.1)=false:=by rfl):
  SD X EX (.Expr (.Call (.Attribute o "append" zh) [e] [] zf) pos) (bg_0 fe f):=
 PS.imp (aj_2 (bw_5 PySem.F.plainAttrs_list PySem.F.slot_list_append PySem.F.type_list_append ae_6 ho (o_9 he z_8 hs) aa ba af hs ae) hsw) fun D σ H ⟨H0,G0,G,Δ,O,E,q⟩=>by
  unfold bg_0 at q
  refine⟨G,vsh Δ,E.st.gh,E.gsh, ?_⟩
  split at q
  ·rename_i ds e1
   rw [e1]
   split at q
   ·rename_i hz
    intro v S G1 H1 st fr t
    obtain⟨a,vs,rfl,ha,hH,r⟩:=t.list_of
    obtain⟨na,ga,la⟩:=fr a ha
    have E1:=E.grow st
    refine⟨.inl ⟨rfl,_,SqL.of hH⟩,G1,vsh Δ,st.gh,E1.gsh, ?_⟩
    cases e2:f (vsh Δ) with
    |ex x=>simp only [e2] at q;exact q.elim
    |no=>simp only [e2] at q;exact q.elim
    |ok w=>
     simp only [e2] at q
     refine WP.intro fun y G2 H2 st2 r2=> ?_
     refine⟨a,vs,y,rfl,rfl,st2.hh _ _ hH,by rw [r.length,sizeLine_eq];exact hz, ?_⟩
     have st3:=Step.wr (a:=a) (o:= .lst (vs ++ [y])) (st.trans st2) na (st2.nw a ga la)
     exact q σ G2 _ _ (E.grow st3) st3.gg
   ·exact q.elim
  ·exact q.elim
end L3
namespace PySem
namespace F
theorem slot_lri_hint:Slot "list_reverseiterator" "__length_hint__" "list_reverseiterator.__length_hint__" :=Slot.of (owner:= "list_reverseiterator") (n:= "__length_hint__") (by simp only [typeLookup_type,builtinLookup_eq_fast];kernel_rfl) (by decide +kernel) (by decide +kernel) (by decide +kernel) (.inr (by decide +kernel)) (by simp only [isSubtype_type];kernel_rfl)
theorem lri_no_len:typeLookup (.type "list_reverseiterator") "__len__" =pure none:=by simp only [typeLookup_type,builtinLookup_eq_fast];kernel_rfl
theorem sub_lri_self:isSubtype (.type "list_reverseiterator") (.type "list_reverseiterator")=pure true:=by simp only [isSubtype_type];kernel_rfl
end F
section
variable{prog:Program}{w:World}{A:Around}{E:Value→Shared→Prop}{s:Shared}
theorem ca_8{it l:Addr}{i:Int}{Q:Bool→Shared→Prop}(hit:s.heap.IsRevIter it l i)(h:Q false s):wpAny (model prog w) A (Builtin.List.listLengthHint (.ref it)) Q E s:=by
 have T:=hit.typeIs
 have l3:splitId "list_reverseiterator.__length_hint__" =some ("list_reverseiterator", "__length_hint__"):=by decide +kernel
 unfold Builtin.List.listLengthHint
 refine wpAny_bind (wpAny_specialOf T F.lri_no_len ?_)
 change wpAny _ _ (specialOf _ "__length_hint__" >>=_) _ _ _
 refine wpAny_bind (wpAny_specialOf T F.slot_lri_hint.lookup ?_)
 dsimp only
 rw [l3]
 dsimp only
 refine wpAny_bind (wpAny_isInstance T F.sub_lri_self ?_)
 rw [if_neg (by decide),if_pos (by decide +kernel),if_neg (by decide)]
 exact wpAny_pure h
theorem ca_9{R:Result→Shared→Prop}{I l S:Addr}{items:Array Value}(hh:A.handled=none)(hit:s.heap.IsRevIter I l ((items.size:Int) - 1))(hl:s.heap.IsList l items)(hne:l≠I)(hz:items.size≤16777216)
  (hSI:S≠I) (hSl:S≠l) (hS:s.heap.get? S=some {cls:= .type "list",data:= .seq #[]})
  (hR:∀h' tk acc c,(∀b o,b≠S→b≠I→s.heap.get? b=some o→h'.get? b=some o)→h'.get? S=some {cls:= .type "list",dict:=none,data:= .seq acc c,slots:= #[]}→
   ItemsOf (fun i v=>items[items.size - 1 - i]? =some v) acc items.size→R (.ok (.ret .none)) {s with heap:=h',toks:=tk}):
  wpAny (model prog w) A.in1 (Builtin.«list.__init__» ⟨[.ref S, .ref I], []⟩)
   (fun fin s'=>match fin with| .done f=>R (.ok f) s'| .again c'=>c'.quiet=true∧codeAny (model prog w) A c' R s') (fun e s'=>R (.error e) s') s:=by
 have W:=(Walks.listRev (prog:=prog) (w:=w) (A:=A.in1) hh I l hne items).toS
 obtain⟨hp,g,d,tk,os⟩:=s
 have n0:=Heap.get?_update_self (Obj.mapSeq (fun _=>(#[]:Array Value))) hS rfl
 have k0:∀b o,b≠S→hp.get? b=some o→(hp.update S (Obj.mapSeq (fun _=>(#[]:Array Value)))).get? b=some o:=fun b o hb z=>(Heap.get?_update_other _ _ (Ne.symm hb)).trans z
 have bg:=hit.at (h':=hp.update S (Obj.mapSeq (fun _=>(#[]:Array Value)))) (fun o=>k0 I o (Ne.symm hSI))
 have hl0:=hl.at (h':=hp.update S (Obj.mapSeq (fun _=>(#[]:Array Value)))) (fun o=>k0 l o (Ne.symm hSl))
 show wpAny _ _ (do let old←Builtin.List.listItems (.ref S);Builtin.List.listUpdate (.ref S) (fun _=> #[]);letGo old.toList.reverse;Builtin.List.listExtendWith (.ref S) (.ref I) .none) _ _ _
 unfold Builtin.List.listItems
 refine wpAny_bind (wpAny_bind (wpAny_seqItems hS rfl (wpAny_pure (wpAny_bind (wpAny_updateSeq hS rfl (wpAny_bind (wpAny_letGo ?_)))))))
 generalize hp.update S (Obj.mapSeq (fun _=>(#[]:Array Value)))=h1 at n0 k0 bg hl0⊢
 have q:Builtin.List.listSameRef (.ref S) (.ref I)=false:=by simp [Builtin.List.listSameRef,hSI]
 have T:=bg.typeIs (s:=⟨h1,g,d,tk,os⟩)
 unfold Builtin.List.listExtendWith
 refine wpAny_bind (wpAny_typeOf T ?_)
 rw [q]
 refine wpAny_bind (wpAny_pyIter_revIter (s:=⟨h1,g,d,tk,os⟩) bg (wpAny_bind (wpAny_holding (ca_8 (s:=⟨h1,g,d,tk,os⟩) bg ?_))))
 wp_walk
 refine⟨plainId_quiet F.plain_extend_loop _,codeAny_extend_loopS W (by unfold sizeLine;omega) S ?_ .none items.size 0 _ #[] _ rfl (Nat.zero_le _) ⟨Nat.zero_le _, ?_,hl0⟩ n0 (ItemsOf.nil _) fun s' acc c mv fin all=> ?_⟩
 ·simp [hSI,hSl]
 ·rw [show(items.size:Int) - 1 - ((0:Nat):Int)=(items.size:Int) - 1 by omega]
  exact bg
 ·obtain⟨m1,m2,m3,m4,m5⟩:=mv
  obtain⟨hp',g',d',tk',os'⟩:=s'
  cases m2
  cases m3
  cases m4
  exact hR hp' tk' acc c (fun b o hb hi z=>m1 b o (by simp [hb,hi]) (k0 b o hb z)) fin all
theorem aq_3{I l:Addr}{items:Array Value}{Q:Value→Shared→Prop}(hh:A.handled=none)(hit:s.heap.IsRevIter I l ((items.size:Int) - 1))(hl:s.heap.IsList l items)(hne:l≠I)(hz:items.size≤16777216)
  (hQ:∀h' tk acc c,(∀b o,b≠I→s.heap.get? b=some o→h'.get? b=some o)→h'.get? s.heap.objs.size=some {cls:= .type "list",dict:=none,data:= .seq acc c,slots:= #[]}→
   ItemsOf (fun i v=>items[items.size - 1 - i]? =some v) acc items.size→Q (.ref s.heap.objs.size) {s with heap:=h',toks:=tk}):
  wpAny (model prog w) A (call (.type "list") [.ref I]) Q E s:=by
 have lI:I < s.heap.objs.size:=hit.elim fun _ z=>Heap.lt_size z.1
 have ll:l < s.heap.objs.size:=hl.elim fun _ z=>Heap.lt_size z.1
 refine callType_codes (Q₁:=fun obj s₁=>obj= .ref s.heap.objs.size∧s₁={s with heap:=s.heap.push {cls:= .type "list",data:= .seq #[]}}) F.called_list (F.typeCall_list_1 _) F.entry_list_init
  (code_list_new _ ⟨rfl,rfl⟩) fun obj s₁ h₁=> ?_
 obtain⟨rfl,rfl⟩:=h₁
 have new:=Heap.get?_push_size s.heap (o:={cls:= .type "list",data:= .seq #[]}) rfl
 have grow:∀b o,s.heap.get? b=some o→(s.heap.push {cls:= .type "list",data:= .seq #[]}).get? b=some o:=fun _ _ z=>Heap.get?_push_of_some _ z
 refine⟨⟨_,new,rfl⟩,F.args_list_init_2 _ _,ca_9 (A:=A.in1) (s:={s with heap:=s.heap.push {cls:= .type "list",data:= .seq #[]}}) hh (hit.at (grow I)) (hl.at (grow l)) hne hz (Nat.ne_of_gt lI) (Nat.ne_of_gt ll) new fun h' tk acc c hk hS all=> ?_⟩
 exact⟨rfl,hQ h' tk acc c (fun b o hb e=>hk b o (Nat.ne_of_lt (Heap.lt_size e)) hb (grow b o e)) hS all⟩
end
end PySem
namespace L3
open PySem PySem.Spec PyProof.Rows L2
variable{K:Frag}{fd:FuncData}{mg:Str→Option Value}{P:Program}{vs:List V}{us:List Value}{base:Heap}{H:Hp}{X:Cx}{pos:Pos}{v:V}
def j_8(f:FE):FE:=fun δ=>(f δ).bind fun w=>match w.d with
 | .lst ds=> .ok (.ow (.lst ds.reverse))
 |_=> .no
theorem FnX.never{w:World}{c:Bool}{k n:Nat}{f:Addr}{ps:List Str}(hn:n=ps.length):FnX P w K mg base c k f fd ps (spX K n fun _=> .no):=
 ⟨fun _ _ _ _ h=>h.1.trans hn,fun _ _ _ _ _ _ _ _ _ _ _ _ _ h=>by obtain⟨_,_,_,_,_,o⟩:=h;exact False.elim o⟩
section
variable{X:Cx}{EX:EXS}{a:Expr}{f:FE}{p p' pos pos':Pos}
theorem am_6(hc:X.calm=true)(hml:X.mg "list" =none)(hm:X.mg "reversed" =none)(ha:ED X EX a f)(hgl:Gl X "list" :=by rfl)(hg:Gl X "reversed" :=by rfl)
  (hs:starEach [a] X.env=(false,eval a X.env)::starEach [] X.env:=by rfl)
  (hs2:starEach [.Call (.Name "reversed" p') [a] [] pos'] X.env=(false,eval (.Call (.Name "reversed" p') [a] [] pos') X.env)::starEach [] X.env:=by rfl) (hpl:(backTo pos (starEach [] X.env)).any (·.1)=false:=by rfl) (cw:(backTo pos' (starEach [] X.env)).any (·.1)=false:=by rfl):
  ED X EX (.Call (.Name "list" p) [.Call (.Name "reversed" p') [a] [] pos'] [] pos) (j_8 f):=by
 intro zd s σ H Q I q
 obtain⟨G,δ,g0,s0,o⟩:=q
 refine Call_ (p_6 I hgl hml PyProof.Rows.boot_list (PyProof.Rows.callWith_type1 ?_ hs2 hpl))
 rw [hs2]
 show wpAny _ _ (spliced ((false,eval (.Call (.Name "reversed" p') [a] [] pos') X.env)::backTo pos (starEach [] X.env))) _ _ s
 refine Calls.spliced_cons ?_
 refine Call_ (p_6 I hg hm boot_reversed (PyProof.Rows.callWith_type1 ?_ hs cw))
 rw [hs]
 show wpAny _ _ (spliced ((false,eval a X.env)::backTo pos' (starEach [] X.env))) _ _ s
 refine Calls.spliced_cons (thn (ha zd s σ H _ I (tD.seq g0 s0 o (P:=fun v H1=>∃l ds vs G1,Same G1 H1∧v= .ref l∧SqL X.K G1 l vs∧HasL X.K G1 vs ds∧Out X.K (EX σ) G1 H1 (.ok (.ow (.lst ds.reverse))) Q) fun w v G' H' _ st r o'=> ?_)) fun u s1 ⟨v,H1,I1,r1,q1⟩=>Calls.spliced_nil ?_)
 ·revert r o'
  cases w.d with
  |lst ds=>
   intro r o'
   cases r with
   |lst h r=>
    exact⟨_,ds,_,G',st.gh,rfl,h,r,o'⟩
  |_=>intro _ o';exact False.elim o'
 ·obtain⟨l,ds,vs,G1,sg,rfl,hq,r,o'⟩:=q1
  cases r1
  obtain⟨its,rv,pl,hz⟩:=I1.list (sg.seq hq)
  have e1:vs.length=its.length:=rv.length
  have e2:vs.length=ds.length:=r.length
  rw [sizeLine_eq] at hz
  have hsz:its.toArray.size=its.length:=by simp
  refine call_reversed_list pl.isList ?_
  refine Calls.spliced_nil ?_
  have I2:Inv X zd σ H1 {s1 with heap:=s1.heap.push (revObj l ((its.toArray.size:Int) - 1))}:=I1.kept fun b o e=>Heap.get?_push_of_some _ e
  have hll:l < s1.heap.objs.size:=by obtain⟨o,ho,_⟩:=pl.isList;exact Heap.lt_size ho
  refine aq_3 (s:={s1 with heap:=s1.heap.push (revObj l ((its.toArray.size:Int) - 1))}) (I2.ok.hd hc) ⟨_,Heap.get?_push_size _ rfl,rfl,rfl⟩ (pl.isList.at fun o e=>Heap.get?_push_of_some _ e) (Nat.ne_of_lt hll) (by rw [hsz];omega) fun h' tk acc c hk hS it=> ?_
  have ev:acc.toList=its.reverse:=by
   obtain⟨i1,i2⟩:=it
   refine List.ext_getElem? fun j=> ?_
   by_cases hj:j < its.length
   ·have hja:j < acc.size:=by rw [i1,hsz];exact hj
    have g1:acc[j]? =some acc[j]:=Array.getElem?_eq_getElem hja
    have g2:=i2 j _ g1
    rw [Array.getElem?_toList,g1,List.getElem?_reverse hj,←g2,hsz]
    simp
   ·rw [List.getElem?_eq_none (by rw [Array.length_toList,i1,hsz];omega),List.getElem?_eq_none (by rw [List.length_reverse];omega)]
  have rv':Vals vs.reverse acc.toList:=by rw [ev];exact Vals.rev rv
  have fr:=I1.hok.fresh (a:=(s1.heap.push (revObj l ((its.toArray.size:Int) - 1))).objs.size) (by simp [Heap.push])
  refine⟨.ref _,upd H1 _ (.lst vs.reverse),I1.laid (t':=tk) (fun b o e=>hk b o (Nat.ne_of_lt (Heap.lt_size e)) (Heap.get?_push_of_some _ e)) (by simp [Heap.push]) ⟨?_,acc.toList,c,rv',by simpa using hS⟩,rfl,q_4 o' sg r.rev _ fr⟩
  rw [List.length_reverse,sizeLine_eq]
  exact hz
end
end L3
namespace My
open PySem L2 L3
def au_1:FS:=
  (sSeq (sIf [0,1] (eTest (eOp ltD (eVar 1) (eCall l_6 (aCons (eVar 0) aNil))))
   (sRet [0,1] (eOp ixD (eVar 0) (eVar 1)))
   sNil)
  (sRet [] (eC (.int 0))))
def h_0:List D→R W:=bodyD 2 au_1
def au_2:FS:=
  (sSeq (sSet 2 [0,1] (eOp n_1 (eOp o_0 (eOp c_9 (eVar 0) (eC (.int 1))) (eOp c_9 (eC (.int 48271)) (eOp o_0 (eC (.int 118)) (eVar 1)))) (eC (.int 2147483629))))
  (sRet [1,2] (eOp n_1 (eOp c_9 (eOp c_9 (eOp o_0 (eOp y_3 (eVar 2) (eC (.int 977))) (eC (.int 16807))) (eOp o_0 (eVar 2) (eOp c_9 (eOp o_0 (eVar 1) (eVar 1)) (eC (.int 7))))) (eVar 1)) (eC (.int 2147483587)))))
def f_9:List D→R W:=bodyD 3 au_2
def am_7:FS:=
  (sRet [0,1] (eFn 2 f_9 (aCons (eOp n_1 (eFn 2 h_0 (aCons (eVar 0) (aCons (eVar 1) aNil))) (eC (.int 2147483647))) (aCons (eOp c_9 (eVar 1) (eC (.int 101))) aNil))))
def g_7:List D→R W:=bodyD 2 am_7
def ah_3:FS:=
  (sRet [0] (eOp c_9 (eOp o_0 (eOp c_9 (eOp o_0 (eFn 2 f_9 (aCons (eVar 0) (aCons (eC (.int 1)) aNil))) (eC (.int 2147483587))) (eFn 2 f_9 (aCons (eVar 0) (aCons (eC (.int 2)) aNil)))) (eC (.int 2147483587))) (eFn 2 f_9 (aCons (eVar 0) (aCons (eC (.int 3)) aNil)))))
def i_4:List D→R W:=bodyD 1 ah_3
def s_2:FE:=
  (eFn 2 h_0 (aCons (eVar 0) (aCons (eOp c_9 (eVar 1) (eVar 5)) aNil)))
def s_3:FE:=
  (eFn 1 i_4 (aCons (eFn 2 f_9 (aCons (eFn 2 g_7 (aCons (eVar 0) (aCons (eOp c_9 (eVar 1) (eOp n_1 (eVar 5) (eCall maxD (aCons (eC (.int 1)) (aCons (eVar 3) aNil))))) aNil))) (aCons (eVar 5) aNil))) aNil))
def w_3:FS:=
  (sSeq (sSet 3 [0,1] (eCall maxD (aCons (eC (.int 0)) (aCons (eOp subD (eCall l_6 (aCons (eVar 0) aNil)) (eVar 1)) aNil))))
  (sSeq (sIf [0] (eTest (eOp eqD (eOp n_1 (eFn 2 h_0 (aCons (eVar 0) (aCons (eC (.int 0)) aNil))) (eC (.int 2))) (eC (.int 0))))
   (sRet [0,1,2,3] (c_8 1 (iArgs m_7 (aCons (eCall minD (aCons (eVar 2) (aCons (eVar 3) aNil))) aNil)) (gC 5) (fun _=> .ok true) s_2))
   sNil)
  (sSeq (sSet 4 [0,2,3] (eCall minD (aCons (eVar 2) (aCons (eCall maxD (aCons (eVar 3) (aCons (eOp c_9 (eC (.int 1)) (eOp n_1 (eFn 2 g_7 (aCons (eVar 0) (aCons (eC (.int 0)) aNil))) (eVar 2))) aNil))) aNil))))
  (sRet [0,1,3,4] (c_8 1 (iArgs m_7 (aCons (eVar 4) aNil)) (gC 5) (fun _=> .ok true) s_3)))))
def l_1:List D→R W:=bodyD 5 w_3
def w_4:FS:=
  (sSeq (sSet 2 [2,5] (eOp y_3 (eVar 2) (eOp ixD (eLst (aCons (eC (.int 12)) (aCons (eC (.int 39)) aNil))) (eCall as_9 (aCons (eOp gtD (eVar 5) (eC (.int 0))) aNil)))))
  (sSet 3 [1,2,3] (eOp c_9 (eVar 3) (eOp ixD (eVar 1) (eOp n_1 (eVar 2) (eC (.int 39)))))))
def x_9:FS:=
  (sSeq (sSet 1 [] (eC (.str "abcdefghijklmnopqrstuvwxyz0123456789-_ ")))
  (sSeq (sSet 2 [0] (eOp y_3 (eVar 0) (eC (.int 3))))
  (sSeq (sIf [0] (eTest (eOp eqD (eOp n_1 (eVar 0) (eC (.int 3))) (eC (.int 0))))
   (sRet [2] (eOp n_1 (eVar 2) (eOp powD (eC (.int 10)) (eC (.int 18)))))
   sNil)
  (sSeq (sIf [0] (eTest (eOp eqD (eOp n_1 (eVar 0) (eC (.int 3))) (eC (.int 2))))
   (sRet [2] (eOp n_1 (eVar 2) (eC (.int 50))))
   sNil)
  (sSeq (sSet 3 [] (eC (.str "")))
  (sSeq (sSet 4 [2] (eOp n_1 (eVar 2) (eC (.int 12))))
  (sSeq (p_0 [4] (iArgs m_7 (aCons (eVar 4) aNil)) (gV 5) w_4)
  (sRetV 3))))))))
def h_9:List D→R W:=bodyD 6 x_9
def p_1:FS:=
  (sSeq (sSet 5 [4] (eFn 1 h_9 (aCons (eVar 4) aNil)))
  (sIf [3,5] (eTest (eOp (inD true) (eVar 5) (eVar 3)))
   (sApp 3 (eVar 5))
   sNil))
def aa_5:FS:=
  (sSeq (sSet 3 [] (eLst aNil))
  (sSeq (p_0 [0,1,2] (iOf (eFn 3 l_1 (aCons (eVar 0) (aCons (eVar 1) (aCons (eVar 2) aNil))))) (gV 4) p_1)
  (sSeq (sIf [3] (eTest (eOp eqD (eVar 3) (eLst aNil)))
   (sSet 3 [0] (eLst (aCons (eFn 1 h_9 (aCons (eOp y_3 (eFn 2 h_0 (aCons (eVar 0) (aCons (eC (.int 0)) aNil))) (eC (.int 2))) aNil)) aNil)))
   sNil)
  (sRetV 3))))
def n_3:List D→R W:=bodyD 6 aa_5
def o_2:FS:=
  (sRet [0] (eTup (aCons (eOp c_9 (eC (.int 1)) (eOp n_1 (eVar 0) (eC (.int 6)))) (aCons (eOp ixD (eLst (aCons (eOp c_9 (eC (.int 1)) (eOp n_1 (eOp y_3 (eVar 0) (eC (.int 24))) (eC (.int 40)))) (aCons (eC (.int 100)) (aCons (eC (.int 200)) (aCons (eC (.int 200)) aNil))))) (eOp n_1 (eOp y_3 (eVar 0) (eC (.int 6))) (eC (.int 4)))) aNil))))
def h_1:List D→R W:=bodyD 1 o_2
def ah_4:FS:=
  (sSeq (sSet 3 [] (eC (.int 2305843009213693951)))
  (sSeq (sSet 4 [1,3] (eOp c_9 (eC (.int 1)) (eOp n_1 (eOp c_9 (eOp o_0 (eC (.int 1103515245)) (eVar 1)) (eC (.int 12345))) (eOp subD (eVar 3) (eC (.int 1))))))
  (sSeq (sSet 5 [1,3] (eOp n_1 (eOp c_9 (eOp o_0 (eOp o_0 (eC (.int 69069)) (eVar 1)) (eVar 1)) (eOp o_0 (eC (.int 7)) (eVar 1))) (eVar 3)))
  (sSeq (sSet 6 [0,3,4,5] (eOp n_1 (eOp c_9 (eOp o_0 (eVar 4) (eVar 0)) (eVar 5)) (eVar 3)))
  (sRet [2,6] (eOp n_1 (eOp c_9 (eVar 6) (eOp y_3 (eVar 6) (eC (.int 2147483648)))) (eVar 2)))))))
def h_2:List D→R W:=bodyD 7 ah_4
def l_9:FE:=
  (eFn 3 h_2 (aCons (eVar 2) (aCons (eVar 1) (aCons (eCall l_6 (aCons (eVar 0) aNil)) aNil))))
def ac_9:FS:=
  (sRet [0,1] (eOp eqD (ac_4 (c_8 1 (iOf (eVar 0)) (gC 2) (fun _=> .ok true) l_9)) (eCall l_6 (aCons (eVar 0) aNil))))
def m_0:List D→R W:=bodyD 2 ac_9
def p_2:FT:=
  (eTest (eOp eqD (eFn 3 h_2 (aCons (eVar 2) (aCons (eVar 1) (aCons (eC (.int 2)) aNil)))) (eC (.int 0))))
def am_8:FS:=
  (sRet [0,1] (c_8 1 (iOf (eVar 0)) (gC 2) p_2 (eVar 2)))
def k_8:List D→R W:=bodyD 2 am_8
def aa_6:FS:=
  (sSeq (sIf [0,1] (eTest (eOp leD (eCall l_6 (aCons (eVar 0) aNil)) (eVar 1)))
   (sRet [0,2] (eFn 2 m_0 (aCons (eVar 0) (aCons (eVar 2) aNil))))
   sNil)
  (sRet [0,2] (eOp eqD (eCall l_6 (aCons (eFn 2 k_8 (aCons (eVar 0) (aCons (eVar 2) aNil))) aNil)) (eOp y_3 (eOp c_9 (eCall l_6 (aCons (eVar 0) aNil)) (eC (.int 1))) (eC (.int 2))))))
def n_4:List D→R W:=bodyD 3 aa_6
def i_5:FT:=
  (tAndF (eTest (eOp ltD (eVar 4) (eVar 2))) (tNotF (eTruth (eFn 3 n_4 (aCons (eVar 0) (aCons (eVar 1) (aCons (eVar 4) aNil)))))))
def p_8:FS:=
  (sSet 4 [4] (eOp c_9 (eVar 4) (eC (.int 1))))
def m_1:FT:=
  (eTest (eOp (inD true) (eVar 8) (eVar 6)))
def u_5(S:List D→R W):FS:=
  (sSeq (sSet 4 [] (eC (.int 0)))
  (sSeq (f_1 [0,1,2,4] i_5 p_8 3000)
  (sSeq (sIf [2,4] (eTest (eOp eqD (eVar 4) (eVar 2)))
   (sRet [3] (eLst (aCons (eC (.bl false)) (aCons (eVar 3) aNil))))
   sNil)
  (sSeq (sSet 5 [3,4] (eOp c_9 (eVar 3) (eLst (aCons (eVar 4) aNil))))
  (sSeq (sIf [0,1] (eTest (eOp leD (eCall l_6 (aCons (eVar 0) aNil)) (eVar 1)))
   (sRet [5] (eLst (aCons (eC (.bl true)) (aCons (eVar 5) aNil))))
   sNil)
  (sSeq (sSet 6 [0,4] (eFn 2 k_8 (aCons (eVar 0) (aCons (eVar 4) aNil))))
  (sSeq (sUnp (gP 7 5) [1,2,5,6] (eFn 4 S (aCons (eVar 6) (aCons (eVar 1) (aCons (eVar 2) (aCons (eVar 5) aNil))))))
  (sSeq (sIf [7] (tNotF (eTruth (eVar 7)))
   (sRet [5] (eLst (aCons (eC (.bl false)) (aCons (eVar 5) aNil))))
   sNil)
  (sRet [0,1,2,5,6] (eFn 4 S (aCons (c_8 1 (iOf (eVar 0)) (gC 8) m_1 (eVar 8)) (aCons (eVar 1) (aCons (eVar 2) (aCons (eVar 5) aNil))))))))))))))
def d_2:Nat→List D→R W
 |0=>fun _=> .no
 |n + 1=>bodyD 8 (u_5 (d_2 n))
def s_4:FS:=
  (sSet 1 [1,2] (eOp c_9 (eOp c_9 (eOp o_0 (eVar 1) (eC (.int 40))) (eMeth "str" af_4 (eC (.str "abcdefghijklmnopqrstuvwxyz0123456789-_ ")) (aCons (eVar 2) aNil))) (eC (.int 1))))
def w_5:FS:=
  (sSeq (sIf [0] (eTruth (eIs "int" (eVar 0)))
   (sRet [0] (eOp o_0 (eC (.int 2)) (eVar 0)))
   sNil)
  (sSeq (sSet 1 [] (eC (.int 0)))
  (sSeq (p_0 [0] (iOf (eVar 0)) (gV 2) s_4)
  (sRet [1] (eOp c_9 (eOp o_0 (eC (.int 2)) (eVar 1)) (eC (.int 1)))))))
def h_3:List D→R W:=bodyD 3 w_5
def ah_5:FS:=
  (sRet [0] (eAnd (eIs "int" (eVar 0)) (eNot (eIs "bool" (eVar 0)))))
def i_6:List D→R W:=bodyD 1 ah_5
def j_1(S:List D→R W):FS:=
  (sSeq (sIf [0,1] (eTest (eOp leD (eVar 0) (eVar 1)))
   (sRet [] (eC (.int 1)))
   sNil)
  (sSeq (sSet 2 [0] (eOp y_3 (eOp c_9 (eVar 0) (eC (.int 1))) (eC (.int 2))))
  (sRet [0,1,2] (eOp c_9 (eOp c_9 (eC (.int 1)) (eFn 2 S (aCons (eVar 2) (aCons (eVar 1) aNil)))) (eFn 2 S (aCons (eOp subD (eVar 0) (eVar 2)) (aCons (eVar 1) aNil)))))))
def e_7:Nat→List D→R W
 |0=>fun _=> .no
 |n + 1=>bodyD 3 (j_1 (e_7 n))
def m_2:FT:=
  (eTest (eOp gtD (eVar 2) (eVar 3)))
def j_2:FS:=
  (sSeq (sSet 6 [2] (eOp y_3 (eOp c_9 (eVar 2) (eC (.int 1))) (eC (.int 2))))
  (sIf [0,1,5] (eTest (eOp eqD (eFn 3 h_2 (aCons (eVar 0) (aCons (eOp ixD (eVar 1) (eVar 5)) (aCons (eC (.int 2)) aNil)))) (eC (.int 0))))
   (sSeq (sSet 5 [5] (eOp c_9 (eVar 5) (eC (.int 1))))
  (sSet 2 [6] (eVar 6)))
   (sSeq (sSet 5 [3,5,6] (eOp c_9 (eOp c_9 (eVar 5) (eC (.int 1))) (eFn 2 (e_7 45) (aCons (eVar 6) (aCons (eVar 3) aNil)))))
  (sSeq (sSet 4 [4,6] (eOp c_9 (eVar 4) (eVar 6)))
  (sSet 2 [2,6] (eOp subD (eVar 2) (eVar 6)))))))
def am_9:FS:=
  (sSeq (sSet 4 [] (eC (.int 0)))
  (sSeq (sSet 5 [] (eC (.int 0)))
  (sSeq (f_1 [2,3] m_2 j_2 3000)
  (sRet [0,1,2,4,5] (eOp c_9 (eVar 4) (eFn 3 h_2 (aCons (eVar 0) (aCons (eOp ixD (eVar 1) (eVar 5)) (aCons (eVar 2) aNil)))))))))
def n_5:List D→R W:=bodyD 7 am_9
def k_4:FE:=
  (eOp (inD false) (eVar 1) (eC (.str "abcdefghijklmnopqrstuvwxyz0123456789-_ ")))
def z_1:FS:=
  (sRet [0] (eAnd (eOp leD (eCall l_6 (aCons (eVar 0) aNil)) (eC (.int 11))) (eCall allD (aCons (c_8 1 (iOf (eVar 0)) (gC 1) (fun _=> .ok true) k_4) aNil))))
def j_9:List D→R W:=bodyD 1 z_1
def an_0:FS:=
  (sSeq (sIf [0] (eTruth (eIs "bool" (eVar 0)))
   (sRet [] (eC (.bl false)))
   sNil)
  (sSeq (sIf [0] (eTruth (eIs "int" (eVar 0)))
   (sRet [0] (av_8 leD leD (eC (.int 0)) (eVar 0) (eC (.int 999999999999999999))))
   sNil)
  (sRet [0] (eAnd (eIs "str" (eVar 0)) (eFn 1 j_9 (aCons (eVar 0) aNil))))))
def p_9:List D→R W:=bodyD 1 an_0
def m_3:FS:=
  (sIf [2] (tNotF (eTruth (eFn 1 p_9 (aCons (eVar 2) aNil))))
   (u_4 "NoKey" "at" [1] (eVar 1))
   sNil)
def v_0:FS:=
  (p_0 [0] (at_4 (eVar 0)) (gV2 1 2) m_3)
def f_4:List D→R W:=bodyD 3 v_0
def af_9:FS:=
  (sSet 1 [1,2] (eOp c_9 (eOp c_9 (eOp o_0 (eC (.int 40)) (eVar 1)) (eMeth "str" bd_2 (eC (.str "abcdefghijklmnopqrstuvwxyz0123456789-_ ")) (aCons (eVar 2) aNil))) (eC (.int 1))))
def bp_1:FS:=
  (sSeq (sSet 1 [] (eC (.int 0)))
  (sSeq (p_0 [0] (iOf (eVar 0)) (gV 2) af_9)
  (sRetV 1)))
def ad_0:List D→R W:=bodyD 3 bp_1
def ay_6:FS:=
  (sSeq (sIf [0] (tNotF (eTruth (eFn 1 p_9 (aCons (eVar 0) aNil))))
   (u_4 "NoKey" "at" [] (eC (.int 0)))
   sNil)
  (sSeq (sIf [0] (eTruth (eIs "str" (eVar 0)))
   (sRet [0] (eOp c_9 (eOp o_0 (eC (.int 2)) (eFn 1 ad_0 (aCons (eVar 0) aNil))) (eC (.int 1))))
   sNil)
  (sRet [0] (eOp o_0 (eC (.int 2)) (eVar 0)))))
def r_1:List D→R W:=bodyD 1 ay_6
def au_3:FS:=
  (sRet [0,1] (eOp leD (eVar 0) (eCall maxD (aCons (eVar 1) (aCons (eC (.int 1)) aNil)))))
def l_2:List D→R W:=bodyD 2 au_3
def ah_6:FS:=
  (sRet [0] (eOp y_3 (eOp c_9 (eVar 0) (eC (.int 1))) (eC (.int 2))))
def i_7:List D→R W:=bodyD 1 ah_6
def bp_2:FS:=
  (sSeq (sIf [2] (eTest (eOp eqD (eVar 2) (eC (.int 0))))
   (sRet [] (eC (.int 0)))
   sNil)
  (sSeq (sSet 3 [1] (eOp c_9 (eC (.int 1)) (eOp n_1 (eOp c_9 (eOp o_0 (eC (.int 1103515245)) (eVar 1)) (eC (.int 12345))) (eOp subD (eC (.int 2305843009213693951)) (eC (.int 1))))))
  (sSeq (sSet 4 [1] (eOp n_1 (eOp c_9 (eOp o_0 (eOp o_0 (eC (.int 69069)) (eVar 1)) (eVar 1)) (eOp o_0 (eC (.int 7)) (eVar 1))) (eC (.int 2305843009213693951))))
  (sSeq (sSet 5 [0,3,4] (eOp n_1 (eOp c_9 (eOp o_0 (eVar 3) (eVar 0)) (eVar 4)) (eC (.int 2305843009213693951))))
  (sRet [2,5] (eOp n_1 (eOp c_9 (eVar 5) (eOp y_3 (eVar 5) (eC (.int 2147483648)))) (eVar 2)))))))
def r_2:List D→R W:=bodyD 6 bp_2
def m_4(S:List D→R W):FS:=
  (sSeq (sIf [0,1] (eTruth (eFn 2 l_2 (aCons (eVar 0) (aCons (eVar 1) aNil))))
   (sRet [] (eC (.int 1)))
   sNil)
  (sSeq (sSet 2 [0] (eFn 1 i_7 (aCons (eVar 0) aNil)))
  (sRet [0,1,2] (eOp c_9 (eOp c_9 (eC (.int 1)) (eFn 2 S (aCons (eVar 2) (aCons (eVar 1) aNil)))) (eFn 2 S (aCons (eOp subD (eVar 0) (eVar 2)) (aCons (eVar 1) aNil)))))))
def f_8:Nat→List D→R W
 |0=>fun _=> .no
 |n + 1=>bodyD 3 (m_4 (f_8 n))
def f_2:FT:=
  (tNotF (eTruth (eFn 2 l_2 (aCons (eVar 3) (aCons (eFld ["Halved"] "leaf" (eVar 0)) aNil)))))
def d_6:FS:=
  (sSeq (sSet 6 [3] (eFn 1 i_7 (aCons (eVar 3) aNil)))
  (sIf [0,2,4] (eTest (eOp eqD (eFn 3 r_2 (aCons (eVar 2) (aCons (eOp ixD (eFld ["Halved"] "salts" (eVar 0)) (eVar 4)) (aCons (eC (.int 2)) aNil)))) (eC (.int 0))))
   (sSeq (sSet 4 [4] (eOp c_9 (eVar 4) (eC (.int 1))))
  (sSet 3 [6] (eVar 6)))
   (sSeq (sSet 4 [0,4,6] (eOp c_9 (eOp c_9 (eVar 4) (eC (.int 1))) (eFn 2 (f_8 45) (aCons (eVar 6) (aCons (eFld ["Halved"] "leaf" (eVar 0)) aNil)))))
  (sSeq (sSet 5 [5,6] (eOp c_9 (eVar 5) (eVar 6)))
  (sSet 3 [3,6] (eOp subD (eVar 3) (eVar 6)))))))
def q_0:FS:=
  (sSeq (sSet 2 [1] (eFn 1 r_1 (aCons (eVar 1) aNil)))
  (sSeq (sSet 3 [0] (eFld ["Halved"] "how_many" (eVar 0)))
  (sSeq (sSet 4 [] (eC (.int 0)))
  (sSeq (sSet 5 [] (eC (.int 0)))
  (sSeq (f_1 [0,3] f_2 d_6 3000)
  (sRet [0,2,3,4,5] (eOp c_9 (eVar 5) (eFn 3 r_2 (aCons (eVar 2) (aCons (eOp ixD (eFld ["Halved"] "salts" (eVar 0)) (eVar 4)) (aCons (eVar 3) aNil)))))))))))
def d_4:List D→R W:=bodyD 7 q_0
def z_2:FS:=
  (sRet [0,1] (eCall minD (aCons (j_6 "number_of" 1 [("Halved",d_4)] (eVar 0) (aCons (eVar 1) aNil)) (aCons (eOp subD (eFld ["Halved"] "how_many" (eVar 0)) (eC (.int 1))) aNil))))
def c_3:List D→R W:=bodyD 2 z_2
def t_1:FE:=
  (j_6 "room" 1 [("Halved",c_3)] (eVar 0) (aCons (eVar 2) aNil))
def w_6:FS:=
  (sSeq (sExpr [1] (eFn 1 f_4 (aCons (eVar 1) aNil)))
  (sRet [0,1] (c_8 1 (iOf (eVar 1)) (gC 2) (fun _=> .ok true) t_1)))
def b_2:List D→R W:=bodyD 2 w_6
def t_2:FS:=
  (sRet [0] (eCall s_0 (aCons (eFld ["Halved"] "salts" (eVar 0)) aNil)))
def c_1:List D→R W:=bodyD 1 t_2
def z_3:FS:=
  (sRet [0] (eFld ["Halved"] "how_many" (eVar 0)))
def f_6:List D→R W:=bodyD 1 z_3
def k_0:FT:=
  (tNotF (eTruth (eFn 1 i_6 (aCons (eVar 5) aNil))))
def ah_7:FS:=
  (sSeq (sIf [0,1,2] (tOrF (eTest (eOp neD (j_6 "rooms" 1 [("Halved",b_2)] (eVar 0) (aCons (eCall s_0 (aCons (eVar 1) aNil)) aNil)) (eVar 2))) (eTest (eOp neD (j_6 "rooms" 1 [("Halved",b_2)] (eVar 0) (aCons (j_8 (eVar 1)) aNil)) (j_8 (eVar 2)))))
   (sRet [] (eC (.bl false)))
   sNil)
  (sSeq (sSet 4 [0] (j_6 "numbers" 0 [("Halved",c_1)] (eVar 0) aNil))
  (sSeq (sIf [3,4] (tOrF (tNotF (eTruth (eIs "list" (eVar 4)))) (tOrF (eTest (eOp neD (eVar 4) (eVar 3))) (eTest (eOp neD (c_8 1 (iOf (eVar 4)) (gC 5) k_0 (eVar 5)) (eLst aNil)))))
   (sRet [] (eC (.bl false)))
   sNil)
  (sSeq (sApp 4 (eC (.int 0)))
  (sSeq (bg_0 (j_6 "rooms" 1 [("Halved",b_2)] (eVar 0) (aCons (eSlice (eVar 1) oNone (oSome (eC (.int 1)))) aNil)) (eC (.int 0)))
  (sRet [0,1,3] (eAnd (eOp eqD (j_6 "numbers" 0 [("Halved",c_1)] (eVar 0) aNil) (eVar 3)) (eAnd (eOp eqD (j_6 "rooms" 1 [("Halved",b_2)] (eVar 0) (aCons (eLst aNil) aNil)) (eLst aNil)) (eOp eqD (j_6 "many" 0 [("Halved",f_6)] (eVar 0) aNil) (eCall l_6 (aCons (eVar 1) aNil)))))))))))
def i_8:List D→R W:=bodyD 5 ah_7
def h_8:FS:=
  (sSeq (sIf [1,3] (eTest (eOp (inK false) (eVar 3) (eVar 1)))
   (u_4 "Twice" "at" [2] (eVar 2))
   sNil)
  (bo_6 1 [] (eVar 3) (eC (.bl true))))
def z_4:FS:=
  (sSeq (sSet 1 [] bz_3)
  (p_0 [0] (at_4 (eVar 0)) (gV2 2 3) h_8))
def k_1:List D→R W:=bodyD 4 z_4
def ah_8:FS:=
  (sSeq (sIf [0] (tOrF (eTest (eOp eqD (eCall l_6 (aCons (eVar 0) aNil)) (eC (.int 0)))) (eTest (eOp gtD (eCall l_6 (aCons (eVar 0) aNil)) (eC (.int 200)))))
   (bp_0 "NoKeys")
   sNil)
  (sSeq (sExpr [0] (eFn 1 f_4 (aCons (eVar 0) aNil)))
  (sSeq (sExpr [0] (eFn 1 k_1 (aCons (eVar 0) aNil)))
  (sRet [0] (eCall l_6 (aCons (eVar 0) aNil))))))
def l_3:List D→R W:=bodyD 1 ah_8
def r_3:FT:=
  (eTest (eOp eqD (eFn 3 r_2 (aCons (eVar 3) (aCons (eVar 1) (aCons (eC (.int 2)) aNil)))) (eVar 2)))
def au_4:FS:=
  (sRet [0,1,2] (c_8 1 (iOf (eVar 0)) (gC 3) r_3 (eVar 3)))
def n_6:List D→R W:=bodyD 3 au_4
def n_8:FE:=
  (eFn 3 r_2 (aCons (eVar 4) (aCons (eVar 1) (aCons (eVar 3) aNil))))
def w_7:FS:=
  (sSeq (sSet 3 [0] (eCall l_6 (aCons (eVar 0) aNil)))
  (sSeq (sIf [2,3] (eTruth (eFn 2 l_2 (aCons (eVar 3) (aCons (eVar 2) aNil))))
   (sRet [0,1,3] (eOp eqD (ac_4 (c_8 1 (iOf (eVar 0)) (gC 4) (fun _=> .ok true) n_8)) (eVar 3)))
   sNil)
  (sRet [0,1,3] (eOp eqD (eCall l_6 (aCons (eFn 3 n_6 (aCons (eVar 0) (aCons (eVar 1) (aCons (eC (.int 0)) aNil)))) aNil)) (eFn 1 i_7 (aCons (eVar 3) aNil))))))
def l_4:List D→R W:=bodyD 4 w_7
def d_1:FS:=
  (sIf [0,1,3] (eTruth (eFn 3 l_4 (aCons (eVar 0) (aCons (eVar 3) (aCons (eVar 1) aNil)))))
   (sRetV 3)
   sNil)
def u_6:FS:=
  (sSeq (p_0 [2] (iArgs m_7 (aCons (eVar 2) aNil)) (gV 3) d_1)
  (sRet [] (eC .non)))
def m_5:List D→R W:=bodyD 4 u_6
def f_7:FT:=
  (eTest (eOp gtD (eCall l_6 (aCons (eVar 4) aNil)) (eC (.int 0))))
def d_8:FS:=
  (sSeq (bd_7 5 4)
  (sSeq (sSet 6 [1,2,5] (eFn 3 m_5 (aCons (eVar 5) (aCons (eVar 1) (aCons (eVar 2) aNil)))))
  (sSeq (sIf [6] (eTest (eOp (isND false) (eVar 6) (eC .non)))
   (u_4 "NoFit" "at" [3] (eCall l_6 (aCons (eVar 3) aNil)))
   sNil)
  (sSeq (sApp 3 (eVar 6))
  (sIf [1,5] (tNotF (eTruth (eFn 2 l_2 (aCons (eCall l_6 (aCons (eVar 5) aNil)) (aCons (eVar 1) aNil)))))
   (sSeq (sApp 4 (eFn 3 n_6 (aCons (eVar 5) (aCons (eVar 6) (aCons (eC (.int 1)) aNil)))))
  (sApp 4 (eFn 3 n_6 (aCons (eVar 5) (aCons (eVar 6) (aCons (eC (.int 0)) aNil))))))
   sNil)))))
def w_8:FS:=
  (sSeq (sSet 3 [] (eLst aNil))
  (sSeq (sSet 4 [0] (eLst (aCons (eVar 0) aNil)))
  (sSeq (f_1 [4] f_7 d_8 3000)
  (sRetV 3))))
def h_4:List D→R W:=bodyD 7 w_8
def t_3:FS:=
  (w_2 0 ["Halved"] "how_many" [1] (eVar 1))
def c_5:List D→R (List Str×List D):=at_6 2 "Halved" t_3
def e_4:FE:=
  (eFn 1 r_1 (aCons (eVar 4) aNil))
def r_4:FS:=
  (sSeq (af_8 0 "Halved" [1] c_5 (eFn 1 l_3 (aCons (eVar 1) aNil)))
  (sSeq (w_2 0 ["Halved"] "leaf" [2] (eVar 2))
  (w_2 0 ["Halved"] "salts" [1,2,3] (eFn 3 h_4 (aCons (c_8 1 (iOf (eVar 1)) (gC 4) (fun _=> .ok true) e_4) (aCons (eVar 2) (aCons (eVar 3) aNil)))))))
def o_3:List D→R (List Str×List D):=at_6 4 "Halved" r_4
def ad_1:FE:=
  (eFn 1 h_3 (aCons (eVar 14) aNil))
def aj_7:FS:=
  (sSet 3 [2,8,9] (at_7 "Halved" 3 o_3 (aCons (eVar 2) (aCons (eVar 8) (aCons (eVar 9) aNil)))))
def bp_3:FS:=
  (sSet 4 [5] (eAttr ["NoFit", "NoKey", "Twice"] "at" (eVar 5)))
def ay_7:FE:=
  (eFn 4 n_5 (aCons (eFn 1 h_3 (aCons (eVar 14) aNil)) (aCons (eVar 11) (aCons (eCall l_6 (aCons (eVar 1) aNil)) (aCons (eVar 8) aNil)))))
def y_0:FE:=
  (eFn 1 h_9 (aCons (eFn 2 f_9 (aCons (eFn 2 g_7 (aCons (eVar 0) (aCons (eC (.int 1)) aNil))) (aCons (eVar 14) aNil))) aNil))
def aj_8:FS:=
  (sSeq (sSet 12 [0,1,7] (eOp ixD (eOp c_9 (eSlice (eVar 1) oNone (oSome (eC (.int 2)))) (c_8 1 (iArgs m_7 (aCons (eC (.int 8)) aNil)) (gC 14) (fun _=> .ok true) y_0)) (eVar 7)))
  (sSeq (sSet 13 [3,12] (j_6 "room" 1 [("Halved",c_3)] (eVar 3) (aCons (eVar 12) aNil)))
  (sIf [1,8,11,12,13] (tOrF (tNotF (eTruth (eFn 1 i_6 (aCons (eVar 13) aNil)))) (eTest (eOp neD (eVar 13) (eFn 4 n_5 (aCons (eFn 1 h_3 (aCons (eVar 12) aNil)) (aCons (eVar 11) (aCons (eCall l_6 (aCons (eVar 1) aNil)) (aCons (eVar 8) aNil))))))))
   (sRet [] (eC (.bl false)))
   sNil)))
def ay_8:FS:=
  (sSet 1 [0] (eFn 3 n_3 (aCons (eVar 0) (aCons (eC (.int 2)) (aCons (eC (.int 40)) aNil)))))
def ay_9:FS:=
  (sUnp (gP 8 9) [0] (eFn 1 h_1 (aCons (eFn 2 h_0 (aCons (eVar 0) (aCons (eC (.int 1)) aNil))) aNil)))
def az_0:FS:=
  (sUnp (gP 10 11) [1,8,9] (eFn 4 (d_2 45) (aCons (c_8 1 (iOf (eVar 1)) (gC 14) (fun _=> .ok true) ad_1) (aCons (eVar 8) (aCons (eVar 9) (aCons (eLst aNil) aNil))))))
def az_1:FS:=
  (sSet 2 [1] (eCall s_0 (aCons (eVar 1) aNil)))
def az_2:FS:=
  (sSet 3 [] (eC .non))
def az_3:FS:=
  (sSet 4 [] (eC .non))
def ad_2:FS:=
  (bf_6 aj_7 [⟨some 5, [("NoFit",true),("NoKey",false),("NoKeys",false),("Twice",false)],bp_3⟩])
def ad_3:FS:=
  (sIf [1,2,3,10] (tOrF (eTest (eOp neD (eVar 2) (eVar 1))) (eTest (eOp neD (eOp (isND true) (eVar 3) (eC .non)) (eVar 10))))
   (sRet [] (eC (.bl false)))
   sNil)
def aj_9:FS:=
  (sIf [3] (eTest (eOp (isND false) (eVar 3) (eC .non)))
   (sRet [4,11] (eAnd (eFn 1 i_6 (aCons (eVar 4) aNil)) (eOp eqD (eVar 4) (eCall l_6 (aCons (eVar 11) aNil)))))
   sNil)
def an_1:FS:=
  (sSet 6 [1,8,11] (c_8 1 (iOf (eVar 1)) (gC 14) (fun _=> .ok true) ay_7))
def an_2:FS:=
  (sIf [1,3,6,11] (tOrF (eTest (eOp neD (eCall at_9 (aCons (eVar 6) aNil)) (eRng m_7 (aCons (eCall l_6 (aCons (eVar 1) aNil)) aNil)))) (tNotF (eTruth (eFn 4 i_8 (aCons (eVar 3) (aCons (eVar 1) (aCons (eVar 6) (aCons (eVar 11) aNil))))))))
   (sRet [] (eC (.bl false)))
   sNil)
def an_3:FS:=
  (p_0 [] (iArgs m_7 (aCons (eC (.int 8)) aNil)) (gV 7) aj_8)
def bg_1:FS:=
  (sRet [1,3,6,11] (eFn 4 i_8 (aCons (eVar 3) (aCons (eVar 1) (aCons (eVar 6) (aCons (eVar 11) aNil))))))
def cn_1:FS:=
  (sSeq ay_8
  (sSeq ay_9
  (sSeq az_0
  (sSeq az_1
  (sSeq az_2
  (sSeq az_3
  (sSeq ad_2
  (sSeq ad_3
  (sSeq aj_9
  (sSeq an_1
  (sSeq an_2
  (sSeq an_3
  bg_1))))))))))))
def cb_0:List D→R W:=bodyD 14 cn_1
end My
namespace L3
open PySem L2
def okD:Nat→D→Bool
 |_, .non=>true
 |_, .bl _=>true
 |_, .int _=>true
 |_, .str x=>x.cps.all (· < 0x110000)
 |n + 1, .lst ds=>ds.all (okD n)
 |n + 1, .tup ds=>ds.all (okD n)
 |_,_=>false
theorem cb_1:∀(n:Nat) (d:D),okD n d=true→(l_7 d).canLay0=true∧(l_7 d).depth≤n∧(l_7 d).eqv (l_7 d)=true:=by
 intro n
 induction n with
 |zero=>
  intro d h
  cases d with
  |non=>exact⟨rfl,Nat.le_refl _,rfl⟩
  |bl b=>exact⟨rfl,Nat.le_refl _,by cases b <;> rfl⟩
  |int i=>exact⟨rfl,Nat.le_refl _,by show(i ==i)=true;simp⟩
  |str x=>exact⟨h,Nat.le_refl _,by show(x ==x)=true;simp⟩
  |_=>cases h
 |succ n ih=>
  have all:∀ds:List D,ds.all (okD n)=true→PyData.canLayAll0 (i_3 ds)=true∧PyData.depthAll (i_3 ds)≤n∧PyData.eqvAll (i_3 ds) (i_3 ds)=true:=by
   intro ds
   induction ds with
   |nil=>intro _;exact⟨rfl,Nat.zero_le _,rfl⟩
   |cons d ds ih2=>
    intro h
    rw [List.all_cons,Bool.and_eq_true] at h
    obtain⟨a1,a2,a3⟩:=ih d h.1
    obtain⟨b1,b2,b3⟩:=ih2 h.2
    refine⟨?_, ?_, ?_⟩
    ·show(PyData.canLay0 (l_7 d) && PyData.canLayAll0 (i_3 ds))=true
     rw [a1,b1];rfl
    ·show max (PyData.depth (l_7 d)) (PyData.depthAll (i_3 ds))≤n
     exact Nat.max_le.mpr ⟨a2,b2⟩
    ·show(PyData.eqv (l_7 d) (l_7 d) && PyData.eqvAll (i_3 ds) (i_3 ds))=true
     rw [a3,b3];rfl
  intro d h
  cases d with
  |non=>exact⟨rfl,Nat.zero_le _,rfl⟩
  |bl b=>exact⟨rfl,Nat.zero_le _,by cases b <;> rfl⟩
  |int i=>exact⟨rfl,Nat.zero_le _,by show(i ==i)=true;simp⟩
  |str x=>exact⟨h,Nat.zero_le _,by show(x ==x)=true;simp⟩
  |lst ds=>
   obtain⟨b1,b2,b3⟩:=all ds h
   exact⟨b1,Nat.succ_le_succ b2,b3⟩
  |tup ds=>
   obtain⟨b1,b2,b3⟩:=all ds h
   exact⟨b1,Nat.succ_le_succ b2,b3⟩
  |_=>cases h
theorem bg_2{n:Nat}{d:D}(h:okD n d=true)(hn:n≤60):eqC d d=true∧eqvD d d=true:=by
 obtain⟨a1,a2,a3⟩:=cb_1 n d h
 refine⟨?_,a3⟩
 unfold eqC
 rw [a1,decide_eq_true (Nat.le_trans a2 hn)]
 rfl
theorem cb_2{d:D}(n:Nat)(h:okD n d=true)(hn:n≤60:=by decide):eqD d d= .ok (.sh (.bl true)):=by
 obtain⟨h1,h2⟩:=bg_2 h hn
 unfold eqD
 split
 ·simp
 ·rw [if_pos h1,h2]
theorem ad_4{d:D}(n:Nat)(h:okD n d=true)(hn:n≤60:=by decide):neD d d= .ok (.sh (.bl false)):=by
 obtain⟨h1,h2⟩:=bg_2 h hn
 unfold neD
 split
 ·simp
 ·rw [if_pos h1,h2];rfl
theorem ck_4(n:Nat)(i:Int):okD n (.int i)=true:=by cases n <;> rfl
theorem cb_3(n:Nat){α:Type}(f:α→Int)(l:List α):(l.map fun a=>D.int (f a)).all (okD n)=true:=by
 rw [List.all_eq_true]
 intro d hd
 obtain⟨a,_,rfl⟩:=List.mem_map.mp hd
 exact ck_4 n _
theorem au_5{α:Type}(f:α→Int):∀l:List α,ac_3 (l.map fun a=>D.int (f a))=some (l.map f)
 | []=>rfl
 |a::l=>by
  show(ac_3 (l.map fun a=>D.int (f a))).map (f a:: ·)=_
  rw [au_5 f l]
  rfl
theorem cx_4{n i:Nat}(h:i < n):ixN n (i:Int)=some i:=by
 unfold ixN
 rw [if_pos (by omega),if_pos (by omega)]
 simp
theorem au_6{α:Type}{xs:List α}{i:Nat}{x:α}(h:xs[i]? =some x):atI xs (i:Int)=some x:=by
 unfold atI
 rw [cx_4 (List.getElem?_eq_some_iff.mp h).1]
 exact h
end L3
namespace My
open PySem L2 L3
def mixZ(c k:Int):Int:=((c + 1) * (48271 + 118 * k) % 2147483629 / 977 * 16807 + (c + 1) * (48271 + 118 * k) % 2147483629 * (k * k + 7) + k) % 2147483587
theorem ag_0(c k:Int)(h1: -1000≤k)(h2:k≤1000):f_9 [.int c, .int k]= .ok (.sh (.int (mixZ c k))):=by
 have hk: -18446744073709551616 < k * k + 7∧k * k + 7 < 18446744073709551616:=by
  have:k * k≤1000 * 1000:=by
   rcases Int.le_total 0 k with h|h
   ·exact Int.mul_le_mul h2 h2 h (by decide)
   ·have:(-k) * (-k)≤1000 * 1000:=Int.mul_le_mul (by omega) (by omega) (by omega) (by decide)
    rwa [Int.neg_mul_neg] at this
  have:0≤k * k:=by
   rcases Int.le_total 0 k with h|h
   ·exact Int.mul_nonneg h h
   ·have:=Int.mul_nonneg (a:= -k) (b:= -k) (by omega) (by omega)
    rwa [Int.neg_mul_neg] at this
  omega
 have m1:mulC 118 k=true:=u_2 (by decide) (by decide)
 have m2:mulC (c + 1) (48271 + 118 * k)=true:=af_5 (by omega) (by omega)
 have m3:∀z:Int,mulC z 16807=true:=fun z=>af_5 (by decide) (by decide)
 have m4:mulC k k=true:=u_2 (by omega) (by omega)
 have m5:∀z:Int,mulC z (k * k + 7)=true:=fun z=>af_5 hk.1 hk.2
 simp_arith [f_9,au_2,evs,k_7 m1,k_7 m2,k_7 (m3 _),k_7 m4,k_7 (m5 _),e_6,o_7 (show(0:Int) < 977 by decide) (by decide),i_0 (show(0:Int) < 2147483629 by decide),i_0 (show(0:Int) < 2147483587 by decide)]
 rfl
theorem ag_1(ns:List Int)(k:Int)(h:0≤k):h_0 [.lst (ns.map .int), .int k]= .ok (.sh (.int (ns.getD k.toNat 0))):=by
 simp_arith [h_0,au_1,evs,e_9,bo_7,List.length_map]
 by_cases hk:k < (ns.length:Int)
 ·have e:atI (ns.map D.int) k=some (.int (ns.getD k.toNat 0)):=by
   apply bz_8 h
   rw [List.getElem?_map]
   have:k.toNat < ns.length:=by omega
   simp [List.getD,this]
  simp_arith [hk,decide_true,if_true,aa_4 e,evs]
 ·simp_arith [hk,decide_false,evs]
  have:ns.length≤k.toNat:=by omega
  simp [List.getD,this]
theorem az_4(ns:List Int)(k:Int)(h:0≤k)(h2:k≤500):∃z,g_7 [.lst (ns.map .int), .int k]= .ok (.sh (.int z)):=by
 refine⟨mixZ (ns.getD k.toNat 0 % 2147483647) (k + 101), ?_⟩
 simp_arith [g_7,am_7,evs,ag_1 ns k h,i_0 (show(0:Int) < 2147483647 by decide),e_6,ag_0 _ (k + 101) (by omega) (by omega)]
theorem cb_4(c:Int):∃z,i_4 [.int c]= .ok (.sh (.int z)):=by
 have m:∀z:Int,mulC z 2147483587=true:=fun z=>af_5 (by decide) (by decide)
 refine⟨(mixZ c 1 * 2147483587 + mixZ c 2) * 2147483587 + mixZ c 3, ?_⟩
 simp_arith [i_4,ah_3,evs,ag_0 c 1 (by decide) (by decide),ag_0 c 2 (by decide) (by decide),ag_0 c 3 (by decide) (by decide),k_7 (m _),e_6]
theorem cb_5(ns:List Int)(s m:Int)(hn:ns.length≤63)(h0:0≤s)(h1:s≤60)(h2:1≤m)(h3:m≤200):
  ∃cs:List Int,(cs.length:Int)≤m∧l_1 [.lst (ns.map .int), .int s, .int m]= .ok (.ow (.lst (cs.map .int))):=by
 obtain⟨z0,hz0⟩:=az_4 ns 0 (by decide) (by decide)
 by_cases hp:ns.getD (0:Int).toNat 0 % 2=0
 ·obtain⟨cs,hl,hc⟩:=cm_8 (fg:=gC 5) (p:=fun _=> .ok true) (f:=eFn 2 h_0 (aCons (eVar 0) (aCons (eOp c_9 (eVar 1) (eVar 5)) aNil)))
   (δ:= [some (.lst (ns.map .int)),some (.int s),some (.int m),some (.int (max 0 ((ns.length:Int) - s))),none,none]) (min m (max 0 ((ns.length:Int) - s))).toNat 0 (fun k hk=>
    ⟨[some (.lst (ns.map .int)),some (.int s),some (.int m),some (.int (max 0 ((ns.length:Int) - s))),none,some (.int (0 + (k:Int)))],_,rfl,rfl,by
     simp_arith [evs,e_6,ag_1 ns (s + (0 + (k:Int))) (by omega)]
     rfl⟩)
  refine⟨cs,by rw [hl];omega, ?_⟩
  have e1:=g_3 (m:=1) (fi:=iArgs m_7 (aCons (eCall minD (aCons (eVar 2) (aCons (eVar 3) aNil))) aNil)) (fg:=gC 5) (p:=fun _=> .ok true) (f:=eFn 2 h_0 (aCons (eVar 0) (aCons (eOp c_9 (eVar 1) (eVar 5)) aNil)))
   (δ:= [some (.lst (ns.map .int)),some (.int s),some (.int m),some (.int (max 0 ((ns.length:Int) - s))),none]) (ds:=e_5 0 (min m (max 0 ((ns.length:Int) - s))).toNat) (rs:=cs.map .int) (by
    simp_arith [evs,bk_2,ac_6 (show -4611686018427387903≤min m (max 0 ((ns.length:Int) - s)) by omega) (by omega)]) (by rw [s_8];omega) hc
  simp_arith [l_1,w_3,s_2,s_3,evs,e_9,List.length_map,u_3,ax_0,ag_1 ns 0 (by decide),i_0 (show(0:Int) < 2 by decide),e_8,hp,e1]
 ·have hmm:=fun k:Int=>Int.emod_nonneg k (show m≠0 by omega)
  have hml:=fun k:Int=>Int.emod_lt_of_pos k (show 0 < m by omega)
  have cv:∀k:Nat,∃z,g_7 [.lst (ns.map .int), .int (s + (0 + (k:Int)) % max 1 (max 0 ((ns.length:Int) - s)))]= .ok (.sh (.int z)):=fun k=>by
   have b1:=Int.emod_nonneg (0 + (k:Int)) (show max 1 (max 0 ((ns.length:Int) - s))≠0 by omega)
   have b2:=Int.emod_lt_of_pos (0 + (k:Int)) (show 0 < max 1 (max 0 ((ns.length:Int) - s)) by omega)
   exact az_4 ns _ (by omega) (by omega)
  have b0:=hmm z0
  have b1:=hml z0
  obtain⟨cs,hl,hc⟩:=cm_8 (fg:=gC 5) (p:=fun _=> .ok true) (f:=eFn 1 i_4 (aCons (eFn 2 f_9 (aCons (eFn 2 g_7 (aCons (eVar 0) (aCons (eOp c_9 (eVar 1) (eOp n_1 (eVar 5) (eCall maxD (aCons (eC (.int 1)) (aCons (eVar 3) aNil))))) aNil))) (aCons (eVar 5) aNil))) aNil))
   (δ:= [some (.lst (ns.map .int)),some (.int s),some (.int m),some (.int (max 0 ((ns.length:Int) - s))),some (.int (min m (max (max 0 ((ns.length:Int) - s)) (1 + z0 % m)))),none]) (min m (max (max 0 ((ns.length:Int) - s)) (1 + z0 % m))).toNat 0 (fun k hk=>by
    obtain⟨zc,hzc⟩:=cv k
    obtain⟨zg,hzg⟩:=cb_4 (mixZ zc (0 + (k:Int)))
    refine⟨[some (.lst (ns.map .int)),some (.int s),some (.int m),some (.int (max 0 ((ns.length:Int) - s))),some (.int (min m (max (max 0 ((ns.length:Int) - s)) (1 + z0 % m)))),some (.int (0 + (k:Int)))],zg,rfl,rfl, ?_⟩
    simp_arith [evs,e_6,ax_0,i_0 (show 0 < max 1 (max 0 ((ns.length:Int) - s)) by omega),hzc,ag_0 zc (0 + (k:Int)) (by omega) (by omega),hzg])
  refine⟨cs,by rw [hl];omega, ?_⟩
  have e1:=g_3 (m:=1) (fi:=iArgs m_7 (aCons (eVar 4) aNil)) (fg:=gC 5) (p:=fun _=> .ok true) (f:=eFn 1 i_4 (aCons (eFn 2 f_9 (aCons (eFn 2 g_7 (aCons (eVar 0) (aCons (eOp c_9 (eVar 1) (eOp n_1 (eVar 5) (eCall maxD (aCons (eC (.int 1)) (aCons (eVar 3) aNil))))) aNil))) (aCons (eVar 5) aNil))) aNil))
   (δ:= [some (.lst (ns.map .int)),some (.int s),some (.int m),some (.int (max 0 ((ns.length:Int) - s))),some (.int (min m (max (max 0 ((ns.length:Int) - s)) (1 + z0 % m))))]) (ds:=e_5 0 (min m (max (max 0 ((ns.length:Int) - s)) (1 + z0 % m))).toNat) (rs:=cs.map .int) (by
    simp_arith [evs,ac_6 (show -4611686018427387903≤min m (max (max 0 ((ns.length:Int) - s)) (1 + z0 % m)) by omega) (by omega)]) (by rw [s_8];omega) hc
  simp_arith [l_1,w_3,s_2,s_3,evs,e_9,List.length_map,u_3,ax_0,bk_2,e_6,ag_1 ns 0 (by decide),i_0 (show(0:Int) < 2 by decide),i_0 (show(0:Int) < m by omega),e_8,hp,hz0,e1]
theorem b_3{g h:FS}{Δ Δ':SE}(e:g Δ= .nx Δ'):sSeq g h Δ=h Δ':=by unfold sSeq;rw [e]
def wr:Nat→Int→List Nat→List Nat
 |0,_,acc=>acc
 |j + 1,r,acc=>wr j (r / 2) ((48 + (r % 2).toNat)::acc)
def rd(bs:List Nat)(a:Int):Int:=bs.foldl (fun a c=>2 * a + (if c=49 then 1 else 0)) a
def mkS(l:List Nat):Str:=⟨l.toArray⟩
theorem o_4(l:List Nat):(mkS l).cps.toList=l:=by simp [mkS]
theorem ak_0(l:List Nat):(mkS l).length=l.length:=by rw [cj_0,o_4]
theorem ck_5(a b:List Nat):mkS a ++ mkS b=mkS (a ++ b):=ci_9 (by rw [cj_1,o_4,o_4,o_4])
def sgL:List Nat:= [97,98,99,100,101,102,103,104,105,106,107,108,109,110,111,112,113,114,115,116,117,118,119,120,121,122,48,49,50,51,52,53,54,55,56,57,45,95,32]
theorem ck_6:(Str.ofString "abcdefghijklmnopqrstuvwxyz0123456789-_ ").cps.toList=sgL:=by decide +kernel
def isKey(d:D):Prop:=(∃n:Int,d= .int n∧0≤n∧n≤999999999999999999)∨(∃l:List Nat,d= .str (mkS l)∧l.length≤11∧∀c∈l,c∈sgL)
theorem isKey.flat{d:D}(h:isKey d):flatD d=true:=by
 rcases h with⟨n,rfl,_⟩|⟨l,rfl,_⟩ <;> rfl
theorem cx_5(r:Int):∃c∈sgL,ixD (.str "abcdefghijklmnopqrstuvwxyz0123456789-_ ") (.int (r % 39))= .ok (.sh (.str (mkS [c]))):=by
 have h0:=Int.emod_nonneg r (show(39:Int)≠0 by decide)
 have h1:=Int.emod_lt_of_pos r (show(0:Int) < 39 by decide)
 have hl:(r % 39).toNat < sgL.length:=by show(r % 39).toNat < 39;omega
 refine⟨sgL[(r % 39).toNat],List.getElem_mem hl,cj_3 (by decide +kernel) ?_⟩
 rw [ck_6]
 exact bz_8 h0 (List.getElem?_eq_getElem hl)
theorem az_5(z:Int):∃d,isKey d∧h_9 [.int z]= .ok (.sh d):=by
 have d3:=o_7 (i:=z) (show(0:Int) < 3 by decide) (by decide)
 have m3:=i_0 (i:=z) (show(0:Int) < 3 by decide)
 have p18:=cs_7 (bz_6 (i:=10) (j:=18) (by decide) (by decide) (by decide) (by decide))
 have e18:(10:Int) ^ (18:Int).toNat=1000000000000000000:=by decide
 rw [e18] at p18
 have:z % 3=0∨z % 3=2∨z % 3=1:=by omega
 rcases this with h|h|h
 ·refine⟨.int (z / 3 % 1000000000000000000), .inl ⟨_,rfl,by omega,by omega⟩, ?_⟩
  simp_arith [h_9,x_9,evs,d3,m3,e_8,h,p18,i_0 (show(0:Int) < 1000000000000000000 by decide)]
 ·refine⟨.int (z / 3 % 50), .inl ⟨_,rfl,by omega,by omega⟩, ?_⟩
  have n0:¬(2:Int)=0:=by decide
  simp_arith [h_9,x_9,evs,d3,m3,e_8,h,n0,i_0 (show(0:Int) < 50 by decide)]
 ·have n0:¬(1:Int)=0:=by decide
  have n2:¬(1:Int)=2:=by decide
  have b0:=Int.emod_nonneg (z / 3) (show(12:Int)≠0 by decide)
  have b1:=Int.emod_lt_of_pos (z / 3) (show(0:Int) < 12 by decide)
  obtain⟨Δ',e,l,r,a5,rfl,hl,hc⟩:=bt_4 (gV 5) w_4 (fun k Δ=>∃(l:List Nat) (r:Int) (a5:Sl),Δ= [.sh (.int z), .sh (.str "abcdefghijklmnopqrstuvwxyz0123456789-_ "), .sh (.int r), .sh (.str (mkS l)), .sh (.int (z / 3 % 12)),a5]∧l.length=k∧∀c∈l,c∈sgL)
   (n:=(z / 3 % 12).toNat) (lo:=0) (Δ:= [.sh (.int z), .sh (.str "abcdefghijklmnopqrstuvwxyz0123456789-_ "), .sh (.int (z / 3)), .sh (.str ""), .sh (.int (z / 3 % 12)), .no]) ⟨[],z / 3, .no,rfl,rfl,fun c hc=>absurd hc (by simp)⟩ (fun k Δ hk hI=>by
   obtain⟨l,r,a5,rfl,hl,hc⟩:=hI
   obtain⟨q,q0,q1,eq⟩:∃q:Int,0 < q∧q < 100∧eOp ixD (eLst (aCons (eC (.int 12)) (aCons (eC (.int 39)) aNil))) (eCall as_9 (aCons (eOp gtD (eVar 5) (eC (.int 0))) aNil)) [some (.int z),some (.str "abcdefghijklmnopqrstuvwxyz0123456789-_ "),some (.int r),some (.str (mkS l)),some (.int (z / 3 % 12)),some (.int (0 + (k:Int)))]= .ok (.sh (.int q)):=by
    by_cases hk0:(0:Int) < 0 + (k:Int)
    ·refine⟨39,by decide,by decide, ?_⟩
     simp_arith [evs,at_8,hk0,as_9]
     rfl
    ·refine⟨12,by decide,by decide, ?_⟩
     simp_arith [evs,at_8,hk0,as_9]
     rfl
   obtain⟨c,hcs,ec⟩:=cx_5 (r / q)
   have zk:(mkS l).length + (mkS [c]).length≤16777216:=by rw [ak_0,ak_0];simp;omega
   refine⟨_,rfl, [.sh (.int z), .sh (.str "abcdefghijklmnopqrstuvwxyz0123456789-_ "), .sh (.int (r / q)), .sh (.str (mkS (l ++ [c]))), .sh (.int (z / 3 % 12)), .sh (.int (0 + (k:Int)))], .inl ?_,_,_,_,rfl,by simp [hl], ?_⟩
   ·simp only [w_4]
    rw [b_3 (Δ':= [.sh (.int z), .sh (.str "abcdefghijklmnopqrstuvwxyz0123456789-_ "), .sh (.int (r / q)), .sh (.str (mkS l)), .sh (.int (z / 3 % 12)), .sh (.int (0 + (k:Int)))])]
    ·simp_arith [evs,i_0 (show(0:Int) < 39 by decide),ec,cs_6 zk,ck_5]
    ·have:=eq
     unfold sSet
     simp only [vsh,List.map_cons,List.map_nil,bz_9,List.set_cons_succ,List.set_cons_zero,gV] at this⊢
     have e9:eOp y_3 (eVar 2) (eOp ixD (eLst (aCons (eC (.int 12)) (aCons (eC (.int 39)) aNil))) (eCall as_9 (aCons (eOp gtD (eVar 5) (eC (.int 0))) aNil))) [some (.int z),some (.str "abcdefghijklmnopqrstuvwxyz0123456789-_ "),some (.int r),some (.str (mkS l)),some (.int (z / 3 % 12)),some (.int (0 + (k:Int)))]= .ok (.sh (.int (r / q))):=by
      show((eVar 2 _).bind fun a=>(eOp ixD _ _ _).bind fun b=>y_3 a.d b.d)=_
      rw [this]
      simp_arith [evs,o_7 q0 (show q < 1361129467683753853853498429727072845824 by omega)]
     rw [e9]
   ·intro d hd
    rcases List.mem_append.mp hd with hd|hd
    ·exact hc d hd
    ·have:d=c:=by simpa using hd
     rw [this];exact hcs)
  refine⟨.str (mkS l), .inr ⟨l,rfl,by omega,hc⟩, ?_⟩
  simp_arith [h_9,x_9,evs,d3,m3,e_8,h,n0,n2,i_0 (show(0:Int) < 12 by decide),p_0,ac_6 (show -4611686018427387903≤z / 3 % 12 by omega) (by omega),e]
theorem bp_4{a b:D}(ha:isKey a)(hb:isKey b):eqF a b=true↔a=b:=by
 rcases ha with⟨n,rfl,_⟩|⟨l,rfl,_⟩ <;> rcases hb with⟨m,rfl,_⟩|⟨k,rfl,_⟩
 ·show(n ==m)=true↔_
  rw [beq_iff_eq]
  exact⟨fun h=>by rw [h],fun h=>by injection h⟩
 ·show false=true↔_
  exact⟨fun h=>(by cases h),fun h=>(by cases h)⟩
 ·show false=true↔_
  exact⟨fun h=>(by cases h),fun h=>(by cases h)⟩
 ·show(mkS l ==mkS k)=true↔_
  rw [beq_iff_eq]
  exact⟨fun h=>by rw [h],fun h=>by injection h⟩
theorem ck_7{d:D}{ks:List D}(hd:isKey d)(hk:∀k∈ks,isKey k):y_4 d ks=true↔d∈ks:=by
 unfold y_4
 rw [List.any_eq_true]
 constructor
 ·rintro ⟨y,hy,h⟩
  rw [←(bp_4 (hk y hy) hd).mp h]
  exact hy
 ·intro h
  exact⟨d,h,(bp_4 hd hd).mpr rfl⟩
theorem cb_6{ks:List D}(hk:∀k∈ks,isKey k):ks.all flatD=true:=List.all_eq_true.mpr fun k h=>(hk k h).flat
theorem cb_7{d:D}{ks:List D}(hd:isKey d)(hk:∀k∈ks,isKey k):inD true d (.lst ks)= .ok (.sh (.bl (!y_4 d ks))):=by
 have h:(flatD d && ks.all flatD)=true:=by rw [hd.flat,cb_6 hk];rfl
 rcases hd with⟨n,rfl,_⟩|⟨l,rfl,_⟩
 ·exact if_pos h
 ·exact if_pos h
theorem ck_8{d:D}(h:isKey d):PyData.canLay0 (l_7 d)=true∧PyData.depth (l_7 d)=0:=by
 rcases h with⟨n,rfl,_⟩|⟨l,rfl,_,hc⟩
 ·exact⟨rfl,rfl⟩
 ·refine⟨?_,rfl⟩
  show(mkS l).cps.all (· < 0x110000)=true
  rw [←Array.all_toList,o_4,List.all_eq_true]
  intro c h
  have:c∈sgL:=hc c h
  have:∀c∈sgL,c < 0x110000:=by decide
  exact decide_eq_true (this c (hc c h))
theorem ad_5:∀{ks:List D},(∀k∈ks,isKey k)→PyData.canLayAll0 (i_3 ks)=true∧PyData.depthAll (i_3 ks)=0
 | [],_=>⟨rfl,rfl⟩
 |k::ks,h=>by
  obtain⟨a1,a2⟩:=ck_8 (h k List.mem_cons_self)
  obtain⟨b1,b2⟩:=ad_5 fun x hx=>h x (List.mem_cons_of_mem _ hx)
  refine⟨?_, ?_⟩
  ·show(PyData.canLay0 (l_7 k) && PyData.canLayAll0 (i_3 ks))=true
   rw [a1,b1];rfl
  ·show max (PyData.depth (l_7 k)) (PyData.depthAll (i_3 ks))=0
   rw [a2,b2];rfl
theorem bg_3{ks js:List D}(hk:∀k∈ks,isKey k)(hj:∀k∈js,isKey k):eqC (.lst ks) (.lst js)=true:=by
 unfold eqC
 rw [Bool.and_eq_true,Bool.and_eq_true]
 refine⟨⟨(ad_5 hk).1,(ad_5 hj).1⟩,decide_eq_true ?_⟩
 show PyData.depthAll (i_3 ks) + 1≤60
 rw [(ad_5 hk).2]
 decide
theorem ck_9{a b:D}(ha:isKey a)(hb:isKey b):PyData.eqv (l_7 a) (l_7 b)=true↔a=b:=by
 rcases ha with⟨n,rfl,_⟩|⟨l,rfl,_⟩ <;> rcases hb with⟨m,rfl,_⟩|⟨k,rfl,_⟩
 ·show(n ==m)=true↔_
  rw [beq_iff_eq]
  exact⟨fun h=>by rw [h],fun h=>by injection h⟩
 ·show false=true↔_
  exact⟨fun h=>(by cases h),fun h=>(by cases h)⟩
 ·show false=true↔_
  exact⟨fun h=>(by cases h),fun h=>(by cases h)⟩
 ·show(mkS l ==mkS k)=true↔_
  rw [beq_iff_eq]
  exact⟨fun h=>by rw [h],fun h=>by injection h⟩
theorem bg_4:∀{ks js:List D},(∀k∈ks,isKey k)→(∀k∈js,isKey k)→(PyData.eqvAll (i_3 ks) (i_3 js)=true↔ks=js)
 | [], [],_,_=>⟨fun _=>rfl,fun _=>rfl⟩
 | [],_::_,_,_=>⟨fun h=>(by cases h),fun h=>(by cases h)⟩
 |_::_, [],_,_=>⟨fun h=>(by cases h),fun h=>(by cases h)⟩
 |k::ks,j::js,hk,hj=>by
  show(PyData.eqv (l_7 k) (l_7 j) && PyData.eqvAll (i_3 ks) (i_3 js))=true↔_
  rw [Bool.and_eq_true,ck_9 (hk k List.mem_cons_self) (hj j List.mem_cons_self),bg_4 (fun x hx=>hk x (List.mem_cons_of_mem _ hx)) (fun x hx=>hj x (List.mem_cons_of_mem _ hx))]
  exact⟨fun⟨a,b⟩=>by rw [a,b],fun h=>by injection h with a b;exact⟨a,b⟩⟩
theorem cl_0(a b:List D):eqD (.lst a) (.lst b)=if eqC (.lst a) (.lst b)=true then .ok (.sh (.bl (eqvD (.lst a) (.lst b)))) else .no:=rfl
theorem cl_1(a b:List D):neD (.lst a) (.lst b)=if eqC (.lst a) (.lst b)=true then .ok (.sh (.bl (!eqvD (.lst a) (.lst b)))) else .no:=rfl
theorem bg_5{ks js:List D}(hk:∀k∈ks,isKey k)(hj:∀k∈js,isKey k):∃b:Bool,(b=true↔ks=js)∧eqD (.lst ks) (.lst js)= .ok (.sh (.bl b))∧neD (.lst ks) (.lst js)= .ok (.sh (.bl (!b))):=by
 refine⟨eqvD (.lst ks) (.lst js),bg_4 hk hj, ?_, ?_⟩
 ·rw [cl_0,if_pos (bg_3 hk hj)]
 ·rw [cl_1,if_pos (bg_3 hk hj)]
theorem cl_2(ns:List Int)(s m:Int)(hn:ns.length≤63)(h0:0≤s)(h1:s≤60)(h2:1≤m)(h3:m≤200):
  ∃ks:List D,ks≠ []∧(ks.length:Int)≤m∧(∀k∈ks,isKey k)∧ks.Nodup∧n_3 [.lst (ns.map .int), .int s, .int m]= .ok (.ow (.lst ks)):=by
 obtain⟨cs,hc,ec⟩:=cb_5 ns s m hn h0 h1 h2 h3
 obtain⟨Δ',e,ks,a4,a5,rfl,hl,hk,hd⟩:=n_2 (gV 4) p_1 (fun k Δ=>∃(ks:List D) (a4 a5:Sl),Δ= [.sh (.lst (ns.map .int)), .sh (.int s), .sh (.int m), .ow (.lst ks),a4,a5]∧ks.length≤k∧(∀k∈ks,isKey k)∧ks.Nodup)
  (ds:=cs.map .int) (Δ:= [.sh (.lst (ns.map .int)), .sh (.int s), .sh (.int m), .ow (.lst []), .no, .no]) ⟨[], .no, .no,rfl,Nat.le_refl _,fun k hk=>absurd hk (by simp),List.nodup_nil⟩ (fun k d Δ hk hI=>by
  obtain⟨ks,a4,a5,rfl,hl,hks,hd⟩:=hI
  rw [List.getElem?_map] at hk
  cases q:cs[k]? with
  |none=>rw [q] at hk;cases hk
  |some c=>
   rw [q] at hk
   cases hk
   have hkl:k < cs.length:=(List.getElem?_eq_some_iff.mp q).1
   obtain⟨d,hdk,ed⟩:=az_5 c
   have hl2:ks.length < 16777216:=by omega
   have hni:=cb_7 hdk hks
   cases hm:y_4 d ks with
   |true=>
    refine⟨_,rfl, [.sh (.lst (ns.map .int)), .sh (.int s), .sh (.int m), .ow (.lst ks), .sh (.int c), .sh d], .inl ?_,ks,_,_,rfl,by omega,hks,hd⟩
    rw [hm] at hni
    simp_arith [p_1,evs,ed,hni]
   |false=>
    refine⟨_,rfl, [.sh (.lst (ns.map .int)), .sh (.int s), .sh (.int m), .ow (.lst (ks ++ [d])), .sh (.int c), .sh d], .inl ?_,ks ++ [d],_,_,rfl,by simp;omega, ?_, ?_⟩
    ·rw [hm] at hni
     simp_arith [p_1,evs,ed,hni,sApp,hl2]
    ·intro x hx
     rcases List.mem_append.mp hx with hx|hx
     ·exact hks x hx
     ·have:x=d:=by simpa using hx
      rw [this];exact hdk
    ·rw [List.nodup_append]
     refine⟨hd,by simp,fun a ha b hb=> ?_⟩
     have:b=d:=by simpa using hb
     subst this
     rintro rfl
     rw [(ck_7 hdk hks).mpr ha] at hm
     cases hm)
 rw [List.length_map] at hl
 obtain⟨b,hb,eb,_⟩:=bg_5 hk (js:= []) (fun k hk=>absurd hk (by simp))
 by_cases hz:ks= []
 ·obtain⟨d,hdk,ed⟩:=az_5 (ns.getD (0:Int).toNat 0 / 2)
  refine⟨[d],by simp,by simp;omega,fun x hx=> ?_,by simp, ?_⟩
  ·have:x=d:=by simpa using hx
   rw [this];exact hdk
  ·have:b=true:=hb.mpr hz
   subst this
   simp_arith [n_3,aa_5,evs,p_0,ec,e,eb,ag_1 ns 0 (by decide),o_7 (show(0:Int) < 2 by decide) (by decide),ed]
 ·refine⟨ks,hz,by omega,hk,hd, ?_⟩
  have:b=false:=by
   cases b with
   |true=>exact absurd (hb.mp rfl) hz
   |false=>rfl
  subst this
  simp_arith [n_3,aa_5,evs,p_0,ec,e,eb]
def sgI(c:Nat):Nat:=sgL.idxOf c
theorem cb_8:∀c∈sgL,Builtin.Str.occurrences "abcdefghijklmnopqrstuvwxyz0123456789-_ " ⟨#[c]⟩ 0 (Str.length "abcdefghijklmnopqrstuvwxyz0123456789-_ ") 1= [sgI c]:=by decide +kernel
def u_7(l:List Nat):Int:=l.foldl (fun a c=>40 * a + (sgI c:Int) + 1) 0
theorem ah_9(l:List Nat)(k c:Nat)(h:l[k]? =some c):u_7 (l.take (k + 1))=40 * u_7 (l.take k) + (sgI c:Int) + 1:=by
 unfold u_7
 rw [List.take_add_one,h,List.foldl_append]
 rfl
def c_2:D→Int
 | .int n=>2 * n
 | .str x=>2 * u_7 x.cps.toList + 1
 |_=>0
theorem cb_9:∀c∈sgL,Txt.find "abcdefghijklmnopqrstuvwxyz0123456789-_ " ⟨#[c]⟩=((sgI c:Nat):Int):=by decide +kernel
theorem cl_3{c:Nat}(h:c∈sgL):bd_2 (.str "abcdefghijklmnopqrstuvwxyz0123456789-_ ") [.str ⟨#[c]⟩]= .ok (.sh (.int (sgI c:Int))):=by
 show R.ok (W.sh (D.int (Txt.find "abcdefghijklmnopqrstuvwxyz0123456789-_ " ⟨#[c]⟩)))=_
 rw [cb_9 c h]
theorem cc_0{c:Nat}(h:c∈sgL):af_4 (.str "abcdefghijklmnopqrstuvwxyz0123456789-_ ") [.str ⟨#[c]⟩]= .ok (.sh (.int (sgI c:Int))):=by
 show(match Builtin.Str.occurrences "abcdefghijklmnopqrstuvwxyz0123456789-_ " ⟨#[c]⟩ 0 (Str.length "abcdefghijklmnopqrstuvwxyz0123456789-_ ") 1 with
  |i::_=>R.ok (W.sh (D.int (i:Nat)))
  | []=>R.no)=_
 rw [cb_8 c h]
theorem cx_6{c:Nat}(h:c∈sgL):inD false (.str ⟨#[c]⟩) (.str "abcdefghijklmnopqrstuvwxyz0123456789-_ ")= .ok (.sh (.bl true)):=by
 show R.ok (W.sh (D.bl (!(Builtin.Str.occurrences "abcdefghijklmnopqrstuvwxyz0123456789-_ " ⟨#[c]⟩ 0 (Str.length "abcdefghijklmnopqrstuvwxyz0123456789-_ ") 1).isEmpty)))=_
 rw [cb_8 c h]
 rfl
theorem o_5(l:List Nat):q_7 (mkS l)=l.map fun c=> .str ⟨#[c]⟩:=by unfold q_7;rw [o_4]
theorem cc_1(l:List Nat)(hl:l.length≤11)(hc:∀c∈l,c∈sgL):ad_0 [.str (mkS l)]= .ok (.sh (.int (u_7 l))):=by
 obtain⟨Δ',e,a2,rfl⟩:=n_2 (gV 2) af_9 (fun k Δ=>∃a2,Δ= [.sh (.str (mkS l)), .sh (.int (u_7 (l.take k))),a2]) (ds:=q_7 (mkS l)) (Δ:= [.sh (.str (mkS l)), .sh (.int 0), .no]) ⟨.no,rfl⟩ (fun k d Δ hk hI=>by
  obtain⟨a2,rfl⟩:=hI
  rw [o_5,List.getElem?_map] at hk
  cases q:l[k]? with
  |none=>rw [q] at hk;cases hk
  |some c=>
   rw [q] at hk
   cases hk
   refine⟨_,rfl, [.sh (.str (mkS l)), .sh (.int (u_7 (l.take (k + 1)))), .sh (.str ⟨#[c]⟩)], .inl ?_,_,rfl⟩
   rw [ah_9 l k c q]
   simp_arith [af_9,evs,k_7 (u_2 (show(-18446744073709551616:Int) < 40 by decide) (by decide)),beq_self_eq_true,cl_3 (hc c (List.mem_of_getElem? q)),e_6])
 rw [o_5,List.length_map,List.take_length] at e
 simp_arith [ad_0,bp_1,evs,p_0,o_5,e]
theorem au_7{d:D}(h:isKey d):p_9 [d]= .ok (.sh (.bl true)):=by
 rcases h with⟨n,rfl,h0,h1⟩|⟨l,rfl,hl,hc⟩
 ·simp_arith [p_9,an_0,evs,av_8,ac_5,h0,h1]
 ·have hx:(mkS l).length≤16777216:=by rw [ak_0];omega
  have ec:=o_1 (fg:=gC 1) (f:=k_4) (δ:= [some (.str (mkS l)),none]) (fun _=> .bl true) (q_7 (mkS l)) (fun d hd=>by
   rw [o_5] at hd
   obtain⟨c,hcl,rfl⟩:=List.mem_map.mp hd
   exact⟨_, .sh (.bl true),rfl,by simp_arith [k_4,evs,cx_6 (hc c hcl)],rfl⟩)
  have ec':=g_3 (m:=1) (fi:=iOf (eVar 0)) (fg:=gC 1) (p:=fun _=> .ok true) (f:=k_4) (δ:= [some (.str (mkS l))]) (by simp_arith [evs]) (by rw [o_5,List.length_map];omega) ec
  have ha:allD [.lst ((q_7 (mkS l)).map fun _=>D.bl true)]= .ok (.sh (.bl true)):=by
   have hb:∀l:List D,af_3 (l.map fun _=>D.bl true)=some (l.map fun _=>true):=by
    intro l
    induction l with
    |nil=>rfl
    |cons a l ih=>show(af_3 (l.map fun _=>D.bl true)).map (true:: ·)=_;rw [ih];rfl
   unfold allD
   simp only [hb]
   congr 3
   rw [List.all_eq_true]
   intro b hb'
   obtain⟨_,_,rfl⟩:=List.mem_map.mp hb'
   rfl
  have dh:((mkS l).length:Int)≤11:=by rw [ak_0];omega
  have et:j_9 [.str (mkS l)]= .ok (.sh (.bl true)):=by
   simp_arith [j_9,z_1,evs,bz_7 hx,ac_5,dh,ec',ha]
  simp_arith [p_9,an_0,evs,et]
theorem bg_6{d:D}(h:isKey d):r_1 [d]= .ok (.sh (.int (c_2 d))):=by
 have hk:=au_7 h
 have m2:=fun j:Int=>k_7 (u_2 (j:=j) (show(-18446744073709551616:Int) < 2 by decide) (by decide))
 rcases h with⟨n,rfl,h0,h1⟩|⟨l,rfl,hl,hc⟩
 ·simp_arith [r_1,ay_6,evs,hk,m2,c_2]
 ·simp_arith [r_1,ay_6,evs,hk,cc_1 l hl hc,m2,e_6,c_2,o_4]
theorem u_8{d:D}(h:isKey d):h_3 [d]= .ok (.sh (.int (c_2 d))):=by
 have m2:=fun j:Int=>k_7 (u_2 (j:=j) (show(-18446744073709551616:Int) < 2 by decide) (by decide))
 rcases h with⟨n,rfl,h0,h1⟩|⟨l,rfl,hl,hc⟩
 ·simp_arith [h_3,w_5,evs,m2,c_2]
 ·obtain⟨Δ',e,a2,rfl⟩:=n_2 (gV 2) s_4 (fun k Δ=>∃a2,Δ= [.sh (.str (mkS l)), .sh (.int (u_7 (l.take k))),a2]) (ds:=q_7 (mkS l)) (Δ:= [.sh (.str (mkS l)), .sh (.int 0), .no]) ⟨.no,rfl⟩ (fun k d Δ hk hI=>by
   obtain⟨a2,rfl⟩:=hI
   rw [o_5,List.getElem?_map] at hk
   cases q:l[k]? with
   |none=>rw [q] at hk;cases hk
   |some c=>
    rw [q] at hk
    cases hk
    refine⟨_,rfl, [.sh (.str (mkS l)), .sh (.int (u_7 (l.take (k + 1)))), .sh (.str ⟨#[c]⟩)], .inl ?_,_,rfl⟩
    rw [ah_9 l k c q,Int.mul_comm 40]
    simp_arith [s_4,evs,k_7 (af_5 (show(-18446744073709551616:Int) < 40 by decide) (by decide)),beq_self_eq_true,cc_0 (hc c (List.mem_of_getElem? q)),e_6])
  rw [o_5,List.length_map,List.take_length] at e
  simp_arith [h_3,w_5,evs,p_0,o_5,e,m2,e_6,c_2,o_4]
def e_3(n s z:Int):Int:=
 (((1 + (1103515245 * s + 12345) % (2305843009213693951 - 1)) * n + (69069 * s * s + 7 * s) % 2305843009213693951) % 2305843009213693951 + ((1 + (1103515245 * s + 12345) % (2305843009213693951 - 1)) * n + (69069 * s * s + 7 * s) % 2305843009213693951) % 2305843009213693951 / 2147483648) % z
theorem o_6(n s z:Int)(h1: -18446744073709551616 < s)(h2:s < 18446744073709551616)(hz:0 < z):r_2 [.int n, .int s, .int z]= .ok (.sh (.int (e_3 n s z)))∧h_2 [.int n, .int s, .int z]= .ok (.sh (.int (e_3 n s z))):=by
 have n0:¬z=0:=by omega
 have f0:=Int.emod_nonneg (1103515245 * s + 12345) (show(2305843009213693951 - 1:Int)≠0 by decide)
 have f1:=Int.emod_lt_of_pos (1103515245 * s + 12345) (show(0:Int) < 2305843009213693951 - 1 by decide)
 have a1:=k_7 (u_2 (i:=1103515245) (j:=s) (by decide) (by decide))
 have a2:=k_7 (u_2 (i:=69069) (j:=s) (by decide) (by decide))
 have a3:=k_7 (af_5 (i:=69069 * s) (j:=s) h1 h2)
 have a4:=k_7 (u_2 (i:=7) (j:=s) (by decide) (by decide))
 have a5:=k_7 (u_2 (i:=1 + (1103515245 * s + 12345) % (2305843009213693951 - 1)) (j:=n) (by omega) (by omega))
 have c1:=fun i:Int=>i_0 (i:=i) (show(0:Int) < 2305843009213693951 - 1 by decide)
 have c2:=fun i:Int=>i_0 (i:=i) (show(0:Int) < 2305843009213693951 by decide)
 have c3:=fun i:Int=>i_0 (i:=i) hz
 have c4:=fun i:Int=>o_7 (i:=i) (show(0:Int) < 2147483648 by decide) (by decide)
 refine⟨?_, ?_⟩
 ·simp_arith [r_2,bp_2,evs,e_8,n0,u_3,e_6,a1,a2,a3,a4,c1,c2,a5,c4,c3]
  rfl
 ·simp_arith [h_2,ah_4,evs,u_3,e_6,a1,a2,a3,a4,c1,c2,a5,c4,c3]
  rfl
end My
namespace L3
open PySem L2
def outF:Fl→Bool
 | .ex _ _=>true
 | .rt _=>true
 | .no=>true
 |_=>false
theorem cc_2(fg:FG)(g:FS)(I:Nat→SE→Prop){ds:List D}{Δ:SE}{n:Nat}{r:Fl}{d:D}(h0:I 0 Δ)(hd:ds[n]? =some d)
  (step:∀k d Δ,k < n→ds[k]? =some d→I k Δ→∃Δ1,fg d Δ= .ok Δ1∧∃Δ2,(g Δ1= .nx Δ2∨g Δ1= .ct Δ2)∧I (k + 1) Δ2)
  (last:∀Δ,I n Δ→∃Δ1,fg d Δ= .ok Δ1∧g Δ1=r) (hr:outF r=true):i_2 fg g ds Δ=r:=by
 have all:∀(m k:Nat) (Δ:SE),k + m=n→I k Δ→i_2 fg g (ds.drop k) Δ=r:=by
  intro m
  induction m with
  |zero=>
   intro k Δ e h
   have:k=n:=by omega
   subst this
   have hl:k < ds.length:=(List.getElem?_eq_some_iff.mp hd).1
   obtain⟨x,d1,d2⟩:=v_7 hl
   rw [hd] at d1
   cases d1
   obtain⟨Δ1,e1,e2⟩:=last Δ h
   rw [d2]
   show(match fg d Δ with
    | .ok Δ1=>(match g Δ1 with
     | .nx Δ2=>i_2 fg g (ds.drop (k + 1)) Δ2
     | .ct Δ2=>i_2 fg g (ds.drop (k + 1)) Δ2
     | .bk Δ2=> .nx Δ2
     |r=>r)
    | .ex _=> .no
    | .no=> .no)=_
   rw [e1]
   simp only [e2]
   cases r with
   |nx _=>cases hr
   |ct _=>cases hr
   |bk _=>cases hr
   |_=>rfl
  |succ m ih=>
   intro k Δ e h
   have hl:n < ds.length:=(List.getElem?_eq_some_iff.mp hd).1
   obtain⟨x,d1,d2⟩:=v_7 (l:=ds) (i:=k) (by omega)
   obtain⟨Δ1,e1,Δ2,e2,h2⟩:=step k x Δ (by omega) d1 h
   have e3:=ih (k + 1) Δ2 (by omega) h2
   rw [d2]
   show(match fg x Δ with
    | .ok Δ1=>(match g Δ1 with
     | .nx Δ2=>i_2 fg g (ds.drop (k + 1)) Δ2
     | .ct Δ2=>i_2 fg g (ds.drop (k + 1)) Δ2
     | .bk Δ2=> .nx Δ2
     |r=>r)
    | .ex _=> .no
    | .no=> .no)=_
   rw [e1]
   rcases e2 with e2|e2
   ·simp only [e2];exact e3
   ·simp only [e2];exact e3
 have:=all n 0 Δ (by omega) h0
 rwa [List.drop_zero] at this
end L3
namespace My
open PySem L2 L3
def kOf:D→Key
 | .int i=> .inl i
 | .str x=> .inr x
 |_=> .inl 0
theorem cc_3{d:D}(h:isKey d):keyD d=some (kOf d):=by
 rcases h with⟨n,rfl,_⟩|⟨l,rfl,_⟩ <;> rfl
theorem bp_5{a b:D}(ha:isKey a)(hb:isKey b)(e:kOf a=kOf b):a=b:=by
 rcases ha with⟨n,rfl,_⟩|⟨l,rfl,_⟩ <;> rcases hb with⟨m,rfl,_⟩|⟨k,rfl,_⟩
 ·injection e with e;rw [e]
 ·cases e
 ·cases e
 ·injection e with e;rw [e]
theorem bp_6{ks:List D}(hk:∀k∈ks,isKey k):f_4 [.lst ks]= .ok (.sh .non):=by
 obtain⟨Δ',e,a1,a2,rfl⟩:=n_2 (gV2 1 2) m_3 (fun k Δ=>∃a1 a2,Δ= [.sh (.lst ks),a1,a2]) (ds:=q_9 0 ks) (Δ:= [.sh (.lst ks), .no, .no]) ⟨_,_,rfl⟩ (fun k d Δ hd hI=>by
  obtain⟨a1,a2,rfl⟩:=hI
  obtain⟨d',e1,rfl⟩:=s_9 hd
  refine⟨_,rfl,_, .inl ?_, .sh (.int ((0 + k:Nat):Int)), .sh d',rfl⟩
  simp_arith [m_3,evs,au_7 (hk d' (List.mem_of_getElem? e1))])
 simp_arith [f_4,v_0,evs,p_0,at_4,bj_8,e]
def r_5(ks:List D):List (Key×D):=ks.map fun d=>(kOf d, .bl true)
theorem cc_4{ks:List D}{d:D}(hk:∀k∈ks,isKey k)(hd:isKey d):hasA (r_5 ks) (kOf d)=true↔d∈ks:=by
 unfold hasA valA r_5
 rw [Option.isSome_map,List.find?_isSome]
 constructor
 ·rintro ⟨p,hp,e⟩
  obtain⟨x,hx,rfl⟩:=List.mem_map.mp hp
  have:kOf x=kOf d:=by simpa using e
  rw [←bp_5 (hk x hx) hd this]
  exact hx
 ·intro h
  exact⟨(kOf d, .bl true),List.mem_map.mpr ⟨d,h,rfl⟩,by simp⟩
theorem cc_5{ks:List D}{d:D}(hk:∀k∈ks,isKey k)(hd:isKey d)(n:d∉ks):putA (r_5 ks) (kOf d) (.bl true)=r_5 (ks ++ [d]):=by
 unfold putA
 have h:((r_5 ks).any fun kv=>decide (kv.1=kOf d))=false:=by
  cases q:(r_5 ks).any fun kv=>decide (kv.1=kOf d) with
  |false=>rfl
  |true=>
   exfalso
   obtain⟨p,hp,e⟩:=List.any_eq_true.mp q
   obtain⟨x,hx,rfl⟩:=List.mem_map.mp hp
   have:kOf x=kOf d:=by simpa using e
   have:=bp_5 (hk x hx) hd this
   subst this
   exact n hx
 rw [h]
 unfold r_5
 rw [List.map_append]
 rfl
theorem bg_7{ks:List D}{l:List D}{d:D}{k:Nat}(hl:∀x∈l,isKey x)(hd:isKey d)(n:d∉l)(hn:l.length < 16777216):
  h_8 [.sh (.lst ks), .ow (.dic (r_5 l)), .sh (.int (k:Int)), .sh d]= .nx [.sh (.lst ks), .ow (.dic (r_5 (l ++ [d]))), .sh (.int (k:Int)), .sh d]:=by
 have h:hasA (r_5 l) (kOf d)=false:=by
  cases q:hasA (r_5 l) (kOf d) with
  |false=>rfl
  |true=>exact absurd ((cc_4 hl hd).mp q) n
 have hs:(r_5 l).length < 16777216:=by unfold r_5;rw [List.length_map];exact hn
 simp_arith [h_8,evs,inK,cc_3 hd,h,bo_6,hs,cc_5 hl hd n]
theorem bu_0{ks:List D}(hk:∀k∈ks,isKey k)(nd:ks.Nodup)(hl:ks.length < 16777216):k_1 [.lst ks]= .ok (.sh .non):=by
 obtain⟨Δ',e,a2,a3,rfl⟩:=n_2 (gV2 2 3) h_8 (fun k Δ=>∃a2 a3,Δ= [.sh (.lst ks), .ow (.dic (r_5 (ks.take k))),a2,a3]) (ds:=q_9 0 ks) (Δ:= [.sh (.lst ks), .ow (.dic []), .no, .no]) ⟨_,_,rfl⟩ (fun k d Δ hd hI=>by
  obtain⟨a2,a3,rfl⟩:=hI
  obtain⟨d',e1,rfl⟩:=s_9 hd
  have hlt:k < ks.length:=(List.getElem?_eq_some_iff.mp e1).1
  have nin:d'∉ks.take k:=fun hm=>by
   obtain⟨j,hj,e⟩:=List.getElem_of_mem hm
   rw [List.length_take] at hj
   rw [List.getElem_take] at e
   have:=List.pairwise_iff_getElem.mp nd j k (by omega) hlt (by omega)
   rw [e] at this
   rw [List.getElem?_eq_getElem hlt] at e1
   injection e1 with e1
   exact this e1.symm
  refine⟨_,rfl,_, .inl (bg_7 (k:=0 + k) (fun x hx=>hk x (List.mem_of_mem_take hx)) (hk d' (List.mem_of_getElem? e1)) nin (by rw [List.length_take];omega)), .sh (.int ((0 + k:Nat):Int)), .sh d', ?_⟩
  rw [List.take_add_one,e1]
  rfl)
 have e':i_2 (gV2 2 3) h_8 (q_9 0 ks) [.sh (.lst ks), .ow (.dic []), .no, .no]=_:=e
 simp_arith [k_1,z_4,evs,bz_3,p_0,at_4,bj_8,e']
theorem cl_4{ks:List D}(hk:∀k∈ks,isKey k)(nd:ks.Nodup)(h1:1≤ks.length)(h2:ks.length≤200):l_3 [.lst ks]= .ok (.sh (.int (ks.length:Int))):=by
 have c1:¬(ks.length:Int)=0:=by omega
 have c2:¬(200:Int) < (ks.length:Int):=by omega
 simp_arith [l_3,ah_8,evs,e_9,e_8,c1,at_8,c2,bp_6 hk,bu_0 hk nd (by omega)]
theorem t_4(n s z:Int)(hz:0 < z):0≤e_3 n s z∧e_3 n s z < z:=⟨Int.emod_nonneg _ (by omega),Int.emod_lt_of_pos _ hz⟩
def b_5(b:Int)(L:List Int)(s:Int):List Int:=L.filter fun x=>decide (e_3 x s 2=b)
theorem bg_8(b s:Int)(L:List Int):((L.map D.int).filter fun d=>match d with| .int x=>decide (e_3 x s 2=b)|_=>false).map (fun d=>d)=(b_5 b L s).map .int:=by
 rw [List.map_id',List.filter_map];rfl
theorem bp_7(L:List Int)(s:Int)(s0:0≤s)(s1:s < 1000)(hl:L.length≤1000):k_8 [.lst (L.map .int), .int s]= .ok (.ow (.lst ((b_5 0 L s).map .int))):=by
 have hc:=p_4 (fg:=gC 2) (p:=p_2) (f:=eVar 2) (δ:= [some (.lst (L.map .int)),some (.int s),none]) (fun d=>match d with| .int x=>decide (e_3 x s 2=0)|_=>false) (fun d=>d) (L.map .int) (fun d hd=>by
  obtain⟨x,hx,rfl⟩:=List.mem_map.mp hd
  refine⟨[some (.lst (L.map .int)),some (.int s),some (.int x)],rfl, ?_,fun _=>⟨_,rfl,rfl⟩⟩
  simp_arith [p_2,evs,(o_6 x s 2 (by omega) (by omega) (by decide)).2,e_8])
 rw [bg_8] at hc
 have ec:=g_3 (m:=1) (fi:=iOf (eVar 0)) (fg:=gC 2) (p:=p_2) (f:=eVar 2) (δ:= [some (.lst (L.map .int)),some (.int s)]) (ds:=L.map .int) (by simp_arith [evs]) (by rw [List.length_map];omega) hc
 simp_arith [k_8,am_8,evs,ec]
theorem az_6(L:List Int)(s b:Int)(s0:0≤s)(s1:s < 1000)(hl:L.length≤1000):n_6 [.lst (L.map .int), .int s, .int b]= .ok (.ow (.lst ((b_5 b L s).map .int))):=by
 have hc:=p_4 (fg:=gC 3) (p:=r_3) (f:=eVar 3) (δ:= [some (.lst (L.map .int)),some (.int s),some (.int b),none]) (fun d=>match d with| .int x=>decide (e_3 x s 2=b)|_=>false) (fun d=>d) (L.map .int) (fun d hd=>by
  obtain⟨x,hx,rfl⟩:=List.mem_map.mp hd
  refine⟨[some (.lst (L.map .int)),some (.int s),some (.int b),some (.int x)],rfl, ?_,fun _=>⟨_,rfl,rfl⟩⟩
  simp_arith [r_3,evs,(o_6 x s 2 (by omega) (by omega) (by decide)).1,e_8])
 rw [bg_8] at hc
 have ec:=g_3 (m:=1) (fi:=iOf (eVar 0)) (fg:=gC 3) (p:=r_3) (f:=eVar 3) (δ:= [some (.lst (L.map .int)),some (.int s),some (.int b)]) (ds:=L.map .int) (by simp_arith [evs]) (by rw [List.length_map];omega) hc
 simp_arith [n_6,au_4,evs,ec]
theorem bp_8(l:List Int):ac_3 (l.map .int)=some l:=by
 have e:=au_5 (fun i:Int=>i) l
 rwa [List.map_id'] at e
theorem bg_9{l:List Int}(h:l.length≤4000):aj_5 (.lst (l.map .int))= .ok (.sh (.int (met l).length)):=by
 unfold aj_5
 simp only [bp_8,if_pos h]
def mixL(L:List Int)(s:Int):List Int:=L.map fun x=>e_3 x s (L.length:Int)
def unB(L:List Int)(s:Int):Bool:=decide (((met (mixL L s)).length:Int)=(L.length:Int))
theorem bp_9(L:List Int)(s:Int):(L.map D.int).map (fun d=>match d with| .int x=>D.int (e_3 x s (L.length:Int))|d=>d)=(mixL L s).map .int:=by
 unfold mixL;rw [List.map_map,List.map_map];rfl
theorem ad_6(L:List Int)(s:Int):(mixL L s).length=L.length:=List.length_map _
theorem bu_1(L:List Int)(s:Int)(s0:0≤s)(s1:s < 1000)(h1:1≤L.length)(hl:L.length≤1000):m_0 [.lst (L.map .int), .int s]= .ok (.sh (.bl (unB L s))):=by
 have hc:=o_1 (fg:=gC 2) (f:=l_9) (δ:= [some (.lst (L.map .int)),some (.int s),none]) (fun d=>match d with| .int x=>D.int (e_3 x s (L.length:Int))|d=>d) (L.map .int) (fun d hd=>by
  obtain⟨x,hx,rfl⟩:=List.mem_map.mp hd
  refine⟨[some (.lst (L.map .int)),some (.int s),some (.int x)], .sh (.int (e_3 x s (L.length:Int))),rfl, ?_,rfl⟩
  simp_arith [l_9,evs,e_9,List.length_map,(o_6 x s (L.length:Int) (by omega) (by omega) (by omega)).2])
 rw [bp_9] at hc
 have ec:=g_3 (m:=1) (fi:=iOf (eVar 0)) (fg:=gC 2) (p:=fun _=> .ok true) (f:=l_9) (δ:= [some (.lst (L.map .int)),some (.int s)]) (ds:=L.map .int) (by simp_arith [evs]) (by rw [List.length_map];omega) hc
 simp_arith [m_0,ac_9,evs,ec,ac_4,bg_9 (l:=mixL L s) (by rw [ad_6];omega),e_9,List.length_map,e_8,unB]
def fitB(leaf:Int)(L:List Int)(s:Int):Bool:=if(L.length:Int)≤leaf then unB L s else decide (((b_5 0 L s).length:Int)=((L.length:Int) + 1) / 2)
theorem bq_0(leaf:Int)(L:List Int)(s:Int)(s0:0≤s)(s1:s < 1000)(h1:1≤L.length)(hl:L.length≤1000):n_4 [.lst (L.map .int), .int leaf, .int s]= .ok (.sh (.bl (fitB leaf L s))):=by
 by_cases c:(L.length:Int)≤leaf
 ·simp_arith [n_4,aa_6,evs,e_9,List.length_map,ac_5,c,decide_true,bu_1 L s s0 s1 h1 hl,fitB,if_true]
 ·simp_arith [n_4,aa_6,evs,e_9,List.length_map,ac_5,c,decide_false,bp_7 L s s0 s1 hl,e_6,o_7 (show(0:Int) < 2 by decide) (by decide),e_8,fitB,if_false]
theorem i_9(z leaf:Int)(hf:1≤leaf):l_2 [.int z, .int leaf]= .ok (.sh (.bl (decide (z≤leaf)))):=by
 have e:max leaf 1=leaf:=by omega
 simp_arith [l_2,au_3,evs,ax_0,e,ac_5]
theorem ak_1(z:Int):i_7 [.int z]= .ok (.sh (.int ((z + 1) / 2))):=by
 simp_arith [i_7,ah_6,evs,e_6,o_7 (show(0:Int) < 2 by decide) (by decide)]
theorem u_9(leaf:Int)(hf:1≤leaf)(L:List Int)(s:Int)(s0:0≤s)(s1:s < 1000)(h1:1≤L.length)(hl:L.length≤1000):l_4 [.lst (L.map .int), .int s, .int leaf]= .ok (.sh (.bl (fitB leaf L s))):=by
 have hc:=o_1 (fg:=gC 4) (f:=n_8) (δ:= [some (.lst (L.map .int)),some (.int s),some (.int leaf),some (.int (L.length:Int)),none]) (fun d=>match d with| .int x=>D.int (e_3 x s (L.length:Int))|d=>d) (L.map .int) (fun d hd=>by
  obtain⟨x,hx,rfl⟩:=List.mem_map.mp hd
  refine⟨[some (.lst (L.map .int)),some (.int s),some (.int leaf),some (.int (L.length:Int)),some (.int x)], .sh (.int (e_3 x s (L.length:Int))),rfl, ?_,rfl⟩
  simp_arith [n_8,evs,(o_6 x s (L.length:Int) (by omega) (by omega) (by omega)).1])
 rw [bp_9] at hc
 have ec:=g_3 (m:=1) (fi:=iOf (eVar 0)) (fg:=gC 4) (p:=fun _=> .ok true) (f:=n_8) (δ:= [some (.lst (L.map .int)),some (.int s),some (.int leaf),some (.int (L.length:Int))]) (ds:=L.map .int) (by simp_arith [evs]) (by rw [List.length_map];omega) hc
 by_cases c:(L.length:Int)≤leaf
 ·simp_arith [l_4,w_7,evs,e_9,List.length_map,i_9 _ leaf hf,c,decide_true,ec,ac_4,bg_9 (l:=mixL L s) (by rw [ad_6];omega),e_8,fitB,unB,if_true]
 ·simp_arith [l_4,w_7,evs,e_9,List.length_map,i_9 _ leaf hf,c,decide_false,az_6 L s 0 s0 s1 hl,ak_1,e_8,fitB,if_false]
def m_6(leaf:Int)(most:Nat)(L:List Int):Option Nat:=(List.range most).find? fun s=>fitB leaf L (s:Int)
def bh_0:Option Nat→D
 |some s=> .int (s:Int)
 |none=> .non
theorem au_8{p:Nat→Bool}{n:Nat}(h:(List.range n).find? p=none):∀s,s < n→p s=false:=fun s hs=>by
 have:=List.find?_eq_none.mp h s (List.mem_range.mpr hs)
 simpa using this
theorem p_5{p:Nat→Bool}{n s:Nat}(h:(List.range n).find? p=some s):s < n∧p s=true∧∀t,t < s→p t=false:=by
 have h1:=List.find?_some h
 have h2:=List.mem_range.mp (List.mem_of_find?_eq_some h)
 refine⟨h2,h1,fun t ht=> ?_⟩
 obtain⟨_,as,bs,e,ha⟩:=List.find?_eq_some_iff_append.mp h
 have hl:as.length=s:=by
  have q:(List.range n)[as.length]? =some s:=by rw [e];simp
  have hlt:as.length < n:=by
   have:=congrArg List.length e
   simp at this;omega
  rw [List.getElem?_range hlt] at q
  exact Option.some.inj q
 have hta:t∈as:=by
  have q:(List.range n)[t]? =some t:=List.getElem?_range (by omega)
  rw [e,List.getElem?_append_left (by omega)] at q
  exact List.mem_of_getElem? q
 have:=ha t hta
 simpa using this
theorem cc_6(leaf:Int)(hf:1≤leaf)(most:Nat)(hm:most≤1000)(L:List Int)(h1:1≤L.length)(hl:L.length≤1000):m_5 [.lst (L.map .int), .int leaf, .int (most:Int)]= .ok (.sh (bh_0 (m_6 leaf most L))):=by
 have hi:iArgs m_7 (aCons (eVar 2) aNil) [some (.lst (L.map .int)),some (.int leaf),some (.int (most:Int)),none]= .ok (e_5 0 most):=by
  simp_arith [evs,ac_6 (show(-4611686018427387903:Int)≤(most:Int) by omega) (by omega),Int.toNat_natCast]
 have hz:∀{k:Nat} {d:D},(e_5 0 most)[k]? =some d→d= .int (k:Int)∧k < most:=fun{k d} e=>by
  unfold e_5 at e
  rw [List.getElem?_map] at e
  by_cases hk:k < most
  ·rw [List.getElem?_range hk] at e
   simp only [Option.map_some,Int.zero_add,Option.some.injEq] at e
   exact⟨e.symm,hk⟩
  ·rw [List.getElem?_eq_none (by simp;omega)] at e
   cases e
 cases e:m_6 leaf most L with
 |none=>
  have hno:=au_8 e
  obtain⟨Δ',e1,a3,rfl⟩:=n_2 (gV 3) d_1 (fun _ Δ=>∃a3,Δ= [.sh (.lst (L.map .int)), .sh (.int leaf), .sh (.int (most:Int)),a3]) (ds:=e_5 0 most) (Δ:= [.sh (.lst (L.map .int)), .sh (.int leaf), .sh (.int (most:Int)), .no]) ⟨_,rfl⟩
   (fun k d Δ hd hI=>by
    obtain⟨a3,rfl⟩:=hI
    obtain⟨rfl,hk⟩:=hz hd
    refine⟨_,rfl, [.sh (.lst (L.map .int)), .sh (.int leaf), .sh (.int (most:Int)), .sh (.int (k:Int))], .inl ?_,_,rfl⟩
    simp_arith [d_1,evs,u_9 leaf hf L (k:Int) (by omega) (by omega) h1 hl,hno k hk])
  refine r_0 ?_
  unfold u_6
  have hf':p_0 [2] (iArgs m_7 (aCons (eVar 2) aNil)) (gV 3) d_1 (start3 4 [.lst (L.map .int), .int leaf, .int (most:Int)])= .nx [.sh (.lst (L.map .int)), .sh (.int leaf), .sh (.int (most:Int)),a3]:=by
   show p_0 [2] (iArgs m_7 (aCons (eVar 2) aNil)) (gV 3) d_1 [.sh (.lst (L.map .int)), .sh (.int leaf), .sh (.int (most:Int)), .no]=_
   have h2:iArgs m_7 (aCons (eVar 2) aNil) (vsh [.sh (.lst (L.map .int)), .sh (.int leaf), .sh (.int (most:Int)), .no])= .ok (e_5 0 most):=hi
   have h3:gsome [2] [.sh (.lst (L.map .int)), .sh (.int leaf), .sh (.int (most:Int)), .no]= [.sh (.lst (L.map .int)), .sh (.int leaf), .sh (.int (most:Int)), .no]:=rfl
   unfold p_0
   simp only [h3,h2]
   exact e1
  rw [b_3 hf']
  rfl
 |some s=>
  obtain⟨hs,hfs,hno⟩:=p_5 e
  have hd:(e_5 0 most)[s]? =some (.int (s:Int)):=by
   unfold e_5
   rw [List.getElem?_map,List.getElem?_range hs]
   simp
  have e1:=cc_2 (gV 3) d_1 (fun _ Δ=>∃a3,Δ= [.sh (.lst (L.map .int)), .sh (.int leaf), .sh (.int (most:Int)),a3]) (ds:=e_5 0 most) (Δ:= [.sh (.lst (L.map .int)), .sh (.int leaf), .sh (.int (most:Int)), .no]) (n:=s) (r:= .rt (.sh (.int (s:Int)))) ⟨_,rfl⟩ hd
   (fun k d Δ hk hd hI=>by
    obtain⟨a3,rfl⟩:=hI
    obtain⟨rfl,hkm⟩:=hz hd
    refine⟨_,rfl, [.sh (.lst (L.map .int)), .sh (.int leaf), .sh (.int (most:Int)), .sh (.int (k:Int))], .inl ?_,_,rfl⟩
    simp_arith [d_1,evs,u_9 leaf hf L (k:Int) (by omega) (by omega) h1 hl,hno k hk])
   (fun Δ hI=>by
    obtain⟨a3,rfl⟩:=hI
    refine⟨_,rfl, ?_⟩
    simp_arith [d_1,evs,u_9 leaf hf L (s:Int) (by omega) (by omega) h1 hl,hfs]) rfl
  refine r_0 ?_
  unfold u_6
  have hf':p_0 [2] (iArgs m_7 (aCons (eVar 2) aNil)) (gV 3) d_1 (start3 4 [.lst (L.map .int), .int leaf, .int (most:Int)])= .rt (.sh (.int (s:Int))):=by
   show p_0 [2] (iArgs m_7 (aCons (eVar 2) aNil)) (gV 3) d_1 [.sh (.lst (L.map .int)), .sh (.int leaf), .sh (.int (most:Int)), .no]=_
   have h2:iArgs m_7 (aCons (eVar 2) aNil) (vsh [.sh (.lst (L.map .int)), .sh (.int leaf), .sh (.int (most:Int)), .no])= .ok (e_5 0 most):=hi
   have h3:gsome [2] [.sh (.lst (L.map .int)), .sh (.int leaf), .sh (.int (most:Int)), .no]= [.sh (.lst (L.map .int)), .sh (.int leaf), .sh (.int (most:Int)), .no]:=rfl
   unfold p_0
   simp only [h3,h2]
   exact e1
  unfold sSeq
  rw [hf']
  rfl
section
variable(leaf:Int)(most:Nat)
def c_7:Nat→List Int→List Int→Bool×List Int
 |0,_,acc=>(false,acc)
 |n + 1,L,acc=>match m_6 leaf most L with
  |none=>(false,acc)
  |some s=>if(L.length:Int)≤leaf then(true,acc ++ [(s:Int)]) else
   match c_7 n (b_5 0 L (s:Int)) (acc ++ [(s:Int)]) with
   |(true,r)=>c_7 n (b_5 1 L (s:Int)) r
   |(false,r)=>(false,r)
end
theorem bu_2(L:List Int)(s:Int):(b_5 0 L s).length + (b_5 1 L s).length=L.length:=by
 unfold b_5
 induction L with
 |nil=>rfl
 |cons x L ih=>
  have hb:=t_4 x s 2 (by decide)
  simp only [List.filter_cons]
  rcases(show e_3 x s 2=0∨e_3 x s 2=1 by omega) with e|e
  ·simp only [e,decide_true,if_true,List.length_cons,show decide ((0:Int)=1)=false from rfl,Bool.false_eq_true,if_false];omega
  ·simp only [e,decide_true,if_true,List.length_cons,show decide ((1:Int)=0)=false from rfl,Bool.false_eq_true,if_false];omega
theorem w_9{leaf:Int}{most:Nat}{L:List Int}{s:Nat}(hf:1≤leaf)(e:m_6 leaf most L=some s)(c:¬(L.length:Int)≤leaf):
  (b_5 0 L (s:Int)).length=(L.length + 1) / 2∧(b_5 1 L (s:Int)).length=L.length - (L.length + 1) / 2∧s < most:=by
 obtain⟨h1,h2,_⟩:=p_5 e
 unfold fitB at h2
 rw [if_neg c] at h2
 have h2:=of_decide_eq_true h2
 have h3:=bu_2 L (s:Int)
 omega
theorem cl_5(L:List Int)(s:Int):L.filter (fun x=> !decide (x∈b_5 0 L s))=b_5 1 L s:=by
 unfold b_5
 apply List.filter_congr
 intro x hx
 have hb:=t_4 x s 2 (by decide)
 rcases(show e_3 x s 2=0∨e_3 x s 2=1 by omega) with e|e
 ·simp [List.mem_filter,hx,e]
 ·simp [List.mem_filter,e]
theorem bh_1(x:Int):∀l:List Int,y_4 (.int x) (l.map .int)=decide (x∈l)
 | []=>rfl
 |y::l=>by
  have ih:=bh_1 x l
  unfold y_4 at ih⊢
  rw [List.map_cons,List.any_cons,ih]
  have:eqF (D.int y) (D.int x)=decide (y=x):=rfl
  simp only [List.mem_cons]
  rw [this]
  by_cases h:y=x
  ·subst h;simp
  ·have h':¬x=y:=fun z=>h z.symm
   simp [h,h']
theorem bu_3(l:List Int):(l.map D.int).all flatD=true:=by
 rw [List.all_map]
 exact List.all_eq_true.mpr fun _ _=>rfl
theorem bu_4(x:Int)(l:List Int):inD true (.int x) (.lst (l.map .int))= .ok (.sh (.bl (!decide (x∈l)))):=by
 have:=bh_1 x l
 have hf:=bu_3 l
 simp only [inD,hf,show flatD (.int x)=true from rfl,and_self,if_true,this]
 rfl
theorem q_1{leaf:Int}{most:Nat}(hf:1≤leaf):∀(n:Nat) (L acc:List Int),1≤L.length→(c_7 leaf most n L acc).2.length≤acc.length + (2 * L.length - 1)
 |0,_,_,_=>by show _≤_;simp [c_7]
 |n + 1,L,acc,h1=>by
  unfold c_7
  cases e:m_6 leaf most L with
  |none=>simp
  |some s=>
   by_cases c:(L.length:Int)≤leaf
   ·simp only [c,if_true,List.length_append,List.length_cons,List.length_nil];omega
   ·obtain⟨e0,e1,_⟩:=w_9 hf e c
    have i0:=q_1 (most:=most) hf n (b_5 0 L (s:Int)) (acc ++ [(s:Int)]) (by omega)
    rw [List.length_append] at i0
    simp only [c,if_false]
    rcases hp:c_7 leaf most n (b_5 0 L (s:Int)) (acc ++ [(s:Int)]) with⟨b,r⟩
    rw [hp] at i0
    simp only [List.length_cons,List.length_nil] at i0
    cases b with
    |false=>simp only;omega
    |true=>
     have i1:=q_1 (most:=most) hf n (b_5 1 L (s:Int)) r (by omega)
     simp only;omega
theorem an_4{leaf:Int}{most:Nat}(hm:most≤1000){L:List Int}(h1:1≤L.length)(hl:L.length≤1000){acc:D}:∀(k s:Nat),s + k=most→(∀t,t < s→fitB leaf L (t:Int)=false)→
  ∀m:Nat,k < m→f_1 [0,1,2,4] i_5 p_8 m [.sh (.lst (L.map .int)), .sh (.int leaf), .sh (.int (most:Int)), .sh acc, .sh (.int (s:Int)), .no, .no, .no]=
   .nx [.sh (.lst (L.map .int)), .sh (.int leaf), .sh (.int (most:Int)), .sh acc, .sh (.int (((m_6 leaf most L).getD most:Nat):Int)), .no, .no, .no]
 |0,s,hs,hno,m,hk=>by
  obtain⟨m,rfl⟩:∃j,m=j + 1:=⟨m - 1,by omega⟩
  have:s=most:=by omega
  subst this
  have e:m_6 leaf s L=none:=List.find?_eq_none.mpr fun t ht=>by rw [hno t (List.mem_range.mp ht)];exact Bool.false_ne_true
  rw [e]
  refine t_0 ?_
  have c:¬((s:Int) < (s:Int)):=by omega
  simp_arith [i_5,evs,bo_7,c,decide_false]
 |k + 1,s,hs,hno,m,hk=>by
  obtain⟨m,rfl⟩:∃j,m=j + 1:=⟨m - 1,by omega⟩
  have c:(s:Int) < (most:Int):=by omega
  cases hf:fitB leaf L (s:Int) with
  |true=>
   have e:m_6 leaf most L=some s:=by
    cases q:m_6 leaf most L with
    |none=>rw [au_8 q s (by omega)] at hf;cases hf
    |some t=>
     obtain⟨a1,a2,a3⟩:=p_5 q
     rcases Nat.lt_trichotomy s t with z|z|z
     ·rw [a3 s z] at hf;cases hf
     ·rw [z]
     ·rw [hno t z] at a2;cases a2
   rw [e]
   refine t_0 ?_
   simp_arith [i_5,evs,bo_7,c,decide_true,bq_0 leaf L (s:Int) (by omega) (by omega) h1 hl,hf]
  |false=>
   have dk:∀t,t < s + 1→fitB leaf L (t:Int)=false:=fun t ht=>by
    rcases Nat.lt_succ_iff_lt_or_eq.mp ht with z|z
    ·exact hno t z
    ·subst z;exact hf
   rw [l_8 (Δ':= [.sh (.lst (L.map .int)), .sh (.int leaf), .sh (.int (most:Int)), .sh acc, .sh (.int ((s + 1:Nat):Int)), .no, .no, .no]) ?_ ?_]
   ·exact an_4 hm h1 hl k (s + 1) (by omega) dk m (by omega)
   ·simp_arith [i_5,evs,bo_7,c,decide_true,bq_0 leaf L (s:Int) (by omega) (by omega) h1 hl,hf]
   ·simp_arith [p_8,evs,e_6]
    rfl
theorem ag_2{leaf:Int}{most:Nat}(hf:1≤leaf)(hm:most≤1000):∀(n:Nat) (L acc:List Int),1≤L.length→L.length≤n→n≤100→acc.length + 2 * L.length≤10000→
  d_2 n [.lst (L.map .int), .int leaf, .int (most:Int), .lst (acc.map .int)]= .ok (.ow (.lst [.bl (c_7 leaf most n L acc).1, .lst ((c_7 leaf most n L acc).2.map .int)]))
 |0,L,acc,h1,h2,_,_=>by omega
 |n + 1,L,acc,h1,h2,h3,h4=>by
  have hw:=an_4 (leaf:=leaf) (acc:= .lst (acc.map .int)) hm h1 (by omega) most 0 (by omega) (fun t ht=>absurd ht (Nat.not_lt_zero t)) 3000 (by omega)
  have t1:sSet 4 [] (eC (.int 0)) (start3 8 [.lst (L.map .int), .int leaf, .int (most:Int), .lst (acc.map .int)])= .nx [.sh (.lst (L.map .int)), .sh (.int leaf), .sh (.int (most:Int)), .sh (.lst (acc.map .int)), .sh (.int ((0:Nat):Int)), .no, .no, .no]:=by
   simp_arith [evs];rfl
  show bodyD 8 (u_5 (d_2 n)) _=_
  refine r_0 ?_
  unfold u_5
  rw [b_3 t1,b_3 hw]
  unfold c_7
  cases e:m_6 leaf most L with
  |none=>
   simp_arith [Option.getD_none,evs,e_8,decide_true]
  |some s=>
   obtain⟨hs,_,_⟩:=p_5 e
   have c1:¬((s:Int)=(most:Int)):=by omega
   have cb:c_9 (.lst (acc.map .int)) (.lst [.int (s:Int)])= .ok (.ow (.lst ((acc ++ [(s:Int)]).map .int))):=by
    rw [bo_8 (by simp;omega),List.map_append];rfl
   have t3:sIf [2,4] (eTest (eOp eqD (eVar 4) (eVar 2))) (sRet [3] (eLst (aCons (eC (.bl false)) (aCons (eVar 3) aNil)))) sNil [.sh (.lst (L.map .int)), .sh (.int leaf), .sh (.int (most:Int)), .sh (.lst (acc.map .int)), .sh (.int (s:Int)), .no, .no, .no]= .nx [.sh (.lst (L.map .int)), .sh (.int leaf), .sh (.int (most:Int)), .sh (.lst (acc.map .int)), .sh (.int (s:Int)), .no, .no, .no]:=by
    simp_arith [evs,e_8,c1,decide_false]
   have t4:sSet 5 [3,4] (eOp c_9 (eVar 3) (eLst (aCons (eVar 4) aNil))) [.sh (.lst (L.map .int)), .sh (.int leaf), .sh (.int (most:Int)), .sh (.lst (acc.map .int)), .sh (.int (s:Int)), .no, .no, .no]= .nx [.sh (.lst (L.map .int)), .sh (.int leaf), .sh (.int (most:Int)), .sh (.lst (acc.map .int)), .sh (.int (s:Int)), .ow (.lst ((acc ++ [(s:Int)]).map .int)), .no, .no]:=by
    simp_arith [evs,cb]
   simp only [Option.getD_some]
   rw [b_3 t3,b_3 t4]
   by_cases c:(L.length:Int)≤leaf
   ·simp_arith [evs,e_9,List.length_map,ac_5,c,decide_true,if_true]
   ·obtain⟨e0,e1,_⟩:=w_9 hf e c
    have i0:=ag_2 hf hm n (b_5 0 L (s:Int)) (acc ++ [(s:Int)]) (by omega) (by omega) (by omega) (by rw [List.length_append];simp;omega)
    have il:=q_1 (most:=most) hf n (b_5 0 L (s:Int)) (acc ++ [(s:Int)]) (by omega)
    rw [List.length_append] at il
    have hg:=bp_7 L (s:Int) (by omega) (by omega) (by omega)
    have t5:sIf [0,1] (eTest (eOp leD (eCall l_6 (aCons (eVar 0) aNil)) (eVar 1))) (sRet [5] (eLst (aCons (eC (.bl true)) (aCons (eVar 5) aNil)))) sNil [.sh (.lst (L.map .int)), .sh (.int leaf), .sh (.int (most:Int)), .sh (.lst (acc.map .int)), .sh (.int (s:Int)), .ow (.lst ((acc ++ [(s:Int)]).map .int)), .no, .no]= .nx [.sh (.lst (L.map .int)), .sh (.int leaf), .sh (.int (most:Int)), .sh (.lst (acc.map .int)), .sh (.int (s:Int)), .ow (.lst ((acc ++ [(s:Int)]).map .int)), .no, .no]:=by
     simp_arith [evs,e_9,List.length_map,ac_5,c,decide_false]
    have t6:sSet 6 [0,4] (eFn 2 k_8 (aCons (eVar 0) (aCons (eVar 4) aNil))) [.sh (.lst (L.map .int)), .sh (.int leaf), .sh (.int (most:Int)), .sh (.lst (acc.map .int)), .sh (.int (s:Int)), .ow (.lst ((acc ++ [(s:Int)]).map .int)), .no, .no]= .nx [.sh (.lst (L.map .int)), .sh (.int leaf), .sh (.int (most:Int)), .sh (.lst (acc.map .int)), .sh (.int (s:Int)), .ow (.lst ((acc ++ [(s:Int)]).map .int)), .ow (.lst ((b_5 0 L (s:Int)).map .int)), .no]:=by
     simp_arith [evs,hg]
    rw [b_3 t5,b_3 t6]
    simp only [c,if_false]
    rcases hp:c_7 leaf most n (b_5 0 L (s:Int)) (acc ++ [(s:Int)]) with⟨b,r⟩
    rw [hp] at i0 il
    simp only [List.length_cons,List.length_nil] at il
    have t7:sUnp (gP 7 5) [1,2,5,6] (eFn 4 (d_2 n) (aCons (eVar 6) (aCons (eVar 1) (aCons (eVar 2) (aCons (eVar 5) aNil))))) [.sh (.lst (L.map .int)), .sh (.int leaf), .sh (.int (most:Int)), .sh (.lst (acc.map .int)), .sh (.int (s:Int)), .ow (.lst ((acc ++ [(s:Int)]).map .int)), .ow (.lst ((b_5 0 L (s:Int)).map .int)), .no]= .nx [.sh (.lst (L.map .int)), .sh (.int leaf), .sh (.int (most:Int)), .sh (.lst (acc.map .int)), .sh (.int (s:Int)), .sh (.lst (r.map .int)), .sh (.lst ((b_5 0 L (s:Int)).map .int)), .sh (.bl b)]:=by
     have:eFn 4 (d_2 n) (aCons (eVar 6) (aCons (eVar 1) (aCons (eVar 2) (aCons (eVar 5) aNil)))) [some (.lst (L.map .int)),some (.int leaf),some (.int (most:Int)),some (.lst (acc.map .int)),some (.int (s:Int)),some (.lst ((acc ++ [(s:Int)]).map .int)),some (.lst ((b_5 0 L (s:Int)).map .int)),none]= .ok (.ow (.lst [.bl b, .lst (r.map .int)])):=by
      simp_arith [evs,i0]
     unfold sUnp
     show(match eFn 4 (d_2 n) (aCons (eVar 6) (aCons (eVar 1) (aCons (eVar 2) (aCons (eVar 5) aNil)))) [some (.lst (L.map .int)),some (.int leaf),some (.int (most:Int)),some (.lst (acc.map .int)),some (.int (s:Int)),some (.lst ((acc ++ [(s:Int)]).map .int)),some (.lst ((b_5 0 L (s:Int)).map .int)),none] with| .ok w=>_| .ex x=>_| .no=>_)=_
     rw [this]
     rfl
    rw [b_3 t7]
    cases b with
    |false=>simp_arith [evs]
    |true=>
     have i1:=ag_2 hf hm n (b_5 1 L (s:Int)) r (by omega) (by omega) (by omega) (by omega)
     have hc:=p_4 (fg:=gC 8) (p:=m_1) (f:=eVar 8) (δ:= [some (.lst (L.map .int)),some (.int leaf),some (.int (most:Int)),some (.lst (acc.map .int)),some (.int (s:Int)),some (.lst (r.map .int)),some (.lst ((b_5 0 L (s:Int)).map .int)),some (.bl true),none]) (fun d=>match d with| .int x=> !decide (x∈b_5 0 L (s:Int))|_=>false) (fun d=>d) (L.map .int) (fun d hd=>by
      obtain⟨x,hx,rfl⟩:=List.mem_map.mp hd
      refine⟨[some (.lst (L.map .int)),some (.int leaf),some (.int (most:Int)),some (.lst (acc.map .int)),some (.int (s:Int)),some (.lst (r.map .int)),some (.lst ((b_5 0 L (s:Int)).map .int)),some (.bl true),some (.int x)],rfl, ?_,fun _=>⟨_,rfl,rfl⟩⟩
      simp_arith [m_1,evs,bu_4])
     have hcm:((L.map D.int).filter fun d=>match d with| .int x=> !decide (x∈b_5 0 L (s:Int))|_=>false).map (fun d=>d)=(b_5 1 L (s:Int)).map .int:=by
      rw [List.map_id',List.filter_map,←cl_5];rfl
     rw [hcm] at hc
     have ec:=g_3 (m:=1) (fi:=iOf (eVar 0)) (fg:=gC 8) (p:=m_1) (f:=eVar 8) (δ:= [some (.lst (L.map .int)),some (.int leaf),some (.int (most:Int)),some (.lst (acc.map .int)),some (.int (s:Int)),some (.lst (r.map .int)),some (.lst ((b_5 0 L (s:Int)).map .int)),some (.bl true)]) (ds:=L.map .int) (by simp_arith [evs]) (by rw [List.length_map];omega) hc
     have t8:sIf [7] (tNotF (eTruth (eVar 7))) (sRet [5] (eLst (aCons (eC (.bl false)) (aCons (eVar 5) aNil)))) sNil [.sh (.lst (L.map .int)), .sh (.int leaf), .sh (.int (most:Int)), .sh (.lst (acc.map .int)), .sh (.int (s:Int)), .sh (.lst (r.map .int)), .sh (.lst ((b_5 0 L (s:Int)).map .int)), .sh (.bl true)]= .nx [.sh (.lst (L.map .int)), .sh (.int leaf), .sh (.int (most:Int)), .sh (.lst (acc.map .int)), .sh (.int (s:Int)), .sh (.lst (r.map .int)), .sh (.lst ((b_5 0 L (s:Int)).map .int)), .sh (.bl true)]:=by
      simp_arith [evs]
     rw [b_3 t8]
     simp_arith [evs,ec,i1]
def k_9(n:Nat):Xn:=⟨"NoFit", ["at"], [.int (n:Int)]⟩
theorem cc_7(W:List D)(d:D):(W ++ [d])[(W ++ [d]).length - 1]? =some d∧(W ++ [d]).dropLast=W:=by
 constructor
 ·simp
 ·simp
section
variable{leaf:Int}{most:Nat}{L0:D}
abbrev stS(leaf:Int)(most:Nat)(L0:D)(acc:List Int)(W:List D)(a5 a6:Sl):SE:= [.sh L0, .sh (.int leaf), .sh (.int (most:Int)), .ow (.lst (acc.map .int)), .ow (.lst W),a5,a6]
theorem an_5(acc:List Int)(W:List D)(a5 a6:Sl):f_7 (vall (stS leaf most L0 acc W a5 a6))= .ok (decide (0 < (W.length:Int))):=by
 have:vall (stS leaf most L0 acc W a5 a6)= [some L0,some (.int leaf),some (.int (most:Int)),some (.lst (acc.map .int)),some (.lst W),a5.any,a6.any]:=rfl
 rw [this]
 simp_arith [f_7,evs,e_9,at_8]
theorem ag_3(hf:1≤leaf)(hm:most≤1000):∀(n:Nat) (L acc:List Int) (W:List D) (a5 a6:Sl),1≤L.length→L.length≤n→n≤100→acc.length + 2 * L.length≤10000→W.length + 2 * L.length≤10000→
  ((c_7 leaf most n L acc).1=true→∃(k:Nat) (b5 b6:Sl),k≤2 * L.length - 1∧∀m,f_1 [4] f_7 d_8 (m + k) (stS leaf most L0 acc (W ++ [.lst (L.map .int)]) a5 a6)=f_1 [4] f_7 d_8 m (stS leaf most L0 (c_7 leaf most n L acc).2 W b5 b6))∧
  ((c_7 leaf most n L acc).1=false→∃(k:Nat),k≤2 * L.length - 1∧∀m,∃Δ,f_1 [4] f_7 d_8 (m + k) (stS leaf most L0 acc (W ++ [.lst (L.map .int)]) a5 a6)= .ex (k_9 (c_7 leaf most n L acc).2.length) Δ)
 |0,L,acc,W,a5,a6,h1,h2,_,_,_=>by omega
 |n + 1,L,acc,W,a5,a6,h1,h2,h3,h4,h5=>by
  have ht:f_7 (vall (stS leaf most L0 acc (W ++ [.lst (L.map .int)]) a5 a6))= .ok true:=by
   rw [an_5,decide_eq_true (by rw [List.length_append];simp)]
  have hle:=cc_6 leaf hf most hm L h1 (by omega)
  obtain⟨p1,p2⟩:=cc_7 W (.lst (L.map .int))
  have u1:bd_7 5 4 (stS leaf most L0 acc (W ++ [.lst (L.map .int)]) a5 a6)= .nx (stS leaf most L0 acc W (.sh (.lst (L.map .int))) a6):=by
   unfold bd_7
   show(match(W ++ [D.lst (L.map .int)])[(W ++ [D.lst (L.map .int)]).length - 1]? with|some d=>Fl.nx _|none=> .no)=_
   rw [p1]
   show Fl.nx [_,_,_,_,Sl.ow (.lst (W ++ [D.lst (L.map .int)]).dropLast),_,_]=_
   rw [p2]
  have u2:sSet 6 [1,2,5] (eFn 3 m_5 (aCons (eVar 5) (aCons (eVar 1) (aCons (eVar 2) aNil)))) (stS leaf most L0 acc W (.sh (.lst (L.map .int))) a6)= .nx (stS leaf most L0 acc W (.sh (.lst (L.map .int))) (.sh (bh_0 (m_6 leaf most L)))):=by
   simp_arith [evs,hle]
  unfold c_7
  cases e:m_6 leaf most L with
  |none=>
   refine⟨fun z=>absurd z Bool.false_ne_true,fun _=>⟨1,by omega,fun m=> ?_⟩⟩
   rw [e] at u2
   have hb:∃Δ,d_8 (stS leaf most L0 acc (W ++ [.lst (L.map .int)]) a5 a6)= .ex (k_9 acc.length) Δ:=by
    unfold d_8
    rw [b_3 u1,b_3 u2]
    refine⟨[.sh L0, .sh (.int leaf), .sh (.int (most:Int)), .sh (.lst (acc.map .int)), .ow (.lst W), .sh (.lst (L.map .int)), .sh .non], ?_⟩
    simp_arith [evs,bh_0,u_4,e_9,List.length_map,k_9]
   obtain⟨Δ,hb⟩:=hb
   refine⟨Δ, ?_⟩
   unfold f_1
   rw [ht]
   simp only [if_true,hb]
  |some s=>
   obtain⟨hs,_,_⟩:=p_5 e
   rw [e] at u2
   have u3:sIf [6] (eTest (eOp (isND false) (eVar 6) (eC .non))) (u_4 "NoFit" "at" [3] (eCall l_6 (aCons (eVar 3) aNil))) sNil (stS leaf most L0 acc W (.sh (.lst (L.map .int))) (.sh (bh_0 (some s))))= .nx (stS leaf most L0 acc W (.sh (.lst (L.map .int))) (.sh (.int (s:Int)))):=by
    simp_arith [evs,bh_0]
   have hal:(acc.map D.int).length < 16777216:=by rw [List.length_map];omega
   have u4:sApp 3 (eVar 6) (stS leaf most L0 acc W (.sh (.lst (L.map .int))) (.sh (.int (s:Int))))= .nx (stS leaf most L0 (acc ++ [(s:Int)]) W (.sh (.lst (L.map .int))) (.sh (.int (s:Int)))):=by
    simp_arith [sApp,evs,hal]
    unfold stS
    rw [List.map_append]
    rfl
   by_cases c:(L.length:Int)≤leaf
   ·simp only [c,if_true]
    refine⟨fun _=>⟨1,_,_,by omega,fun m=>l_8 ht (Δ':=stS leaf most L0 (acc ++ [(s:Int)]) W (.sh (.lst (L.map .int))) (.sh (.int (s:Int)))) ?_⟩,fun z=>by cases z⟩
    unfold d_8
    rw [b_3 u1,b_3 u2,b_3 u3,b_3 u4]
    simp_arith [evs,e_9,List.length_map,i_9 _ leaf hf,c,decide_true]
   ·obtain⟨e0,e1,_⟩:=w_9 hf e c
    have g1:=az_6 L (s:Int) 1 (by omega) (by omega) (by omega)
    have g0:=az_6 L (s:Int) 0 (by omega) (by omega) (by omega)
    have hW:W.length < 16777216:=by omega
    have hW1:(W ++ [D.lst ((b_5 1 L (s:Int)).map .int)]).length < 16777216:=by rw [List.length_append];simp;omega
    have hb:d_8 (stS leaf most L0 acc (W ++ [.lst (L.map .int)]) a5 a6)= .nx (stS leaf most L0 (acc ++ [(s:Int)]) ((W ++ [.lst ((b_5 1 L (s:Int)).map .int)]) ++ [.lst ((b_5 0 L (s:Int)).map .int)]) (.sh (.lst (L.map .int))) (.sh (.int (s:Int)))):=by
     unfold d_8
     rw [b_3 u1,b_3 u2,b_3 u3,b_3 u4]
     simp_arith [evs,e_9,List.length_map,i_9 _ leaf hf,c,decide_false,sApp,hW,g1,hW1,g0]
    simp only [c,if_false]
    obtain⟨r0,r1⟩:=ag_3 hf hm n (b_5 0 L (s:Int)) (acc ++ [(s:Int)]) (W ++ [.lst ((b_5 1 L (s:Int)).map .int)]) (.sh (.lst (L.map .int))) (.sh (.int (s:Int))) (by omega) (by omega) (by omega) (by rw [List.length_append];simp;omega) (by rw [List.length_append];simp;omega)
    have il:=q_1 (most:=most) hf n (b_5 0 L (s:Int)) (acc ++ [(s:Int)]) (by omega)
    rw [List.length_append] at il
    rcases hp:c_7 leaf most n (b_5 0 L (s:Int)) (acc ++ [(s:Int)]) with⟨b,r⟩
    rw [hp] at r0 r1 il
    simp only [List.length_cons,List.length_nil] at il
    cases b with
    |false=>
     obtain⟨k,hk,w⟩:=r1 rfl
     refine⟨fun z=>absurd (show(false:Bool)=true from z) Bool.false_ne_true,fun _=>⟨k + 1,by omega,fun m=> ?_⟩⟩
     obtain⟨Δ,w⟩:=w m
     exact⟨Δ,(l_8 (n:=m + k) ht hb).trans w⟩
    |true=>
     obtain⟨k,b5,b6,hk,w⟩:=r0 rfl
     obtain⟨s0,s1⟩:=ag_3 hf hm n (b_5 1 L (s:Int)) r W b5 b6 (by omega) (by omega) (by omega) (by omega) (by omega)
     refine⟨fun z=> ?_,fun z=> ?_⟩
     ·obtain⟨j,c5,c6,hj,w'⟩:=s0 z
      refine⟨j + k + 1,c5,c6,by omega,fun m=> ?_⟩
      rw [show m + (j + k + 1)=(m + j + k) + 1 by omega]
      exact((l_8 ht hb).trans (w (m + j))).trans (w' m)
     ·obtain⟨j,hj,w'⟩:=s1 z
      refine⟨j + k + 1,by omega,fun m=> ?_⟩
      obtain⟨Δ,w'⟩:=w' m
      refine⟨Δ, ?_⟩
      rw [show m + (j + k + 1)=(m + j + k) + 1 by omega]
      exact((l_8 ht hb).trans (w (m + j))).trans w'
end
theorem cc_8{leaf:Int}{most:Nat}(hf:1≤leaf)(hm:most≤1000)(n:Nat)(L:List Int)(h1:1≤L.length)(h2:L.length≤n)(h3:n≤100):
  h_4 [.lst (L.map .int), .int leaf, .int (most:Int)]=if(c_7 leaf most n L []).1=true then .ok (.ow (.lst ((c_7 leaf most n L []).2.map .int))) else .ex (k_9 (c_7 leaf most n L []).2.length):=by
 have t1:sSet 3 [] (eLst aNil) (start3 7 [.lst (L.map .int), .int leaf, .int (most:Int)])= .nx [.sh (.lst (L.map .int)), .sh (.int leaf), .sh (.int (most:Int)), .ow (.lst []), .no, .no, .no]:=by
  simp_arith [evs]
 have t2:sSet 4 [0] (eLst (aCons (eVar 0) aNil)) [.sh (.lst (L.map .int)), .sh (.int leaf), .sh (.int (most:Int)), .ow (.lst []), .no, .no, .no]= .nx (stS leaf most (.lst (L.map .int)) [] ([] ++ [.lst (L.map .int)]) .no .no):=by
  simp_arith [evs]
  rfl
 obtain⟨r0,r1⟩:=ag_3 (L0:= .lst (L.map .int)) hf hm n L [] [] .no .no h1 h2 h3 (by simp;omega) (by simp;omega)
 cases hb:(c_7 leaf most n L []).1 with
 |true=>
  obtain⟨k,b5,b6,hk,w⟩:=r0 hb
  have w:=w (3000 - k)
  rw [show 3000 - k + k=3000 by omega] at w
  have we:f_1 [4] f_7 d_8 (3000 - k) (stS leaf most (.lst (L.map .int)) (c_7 leaf most n L []).2 [] b5 b6)= .nx (stS leaf most (.lst (L.map .int)) (c_7 leaf most n L []).2 [] b5 b6):=by
   rw [show 3000 - k=(2999 - k) + 1 by omega]
   exact t_0 (by rw [an_5];rfl)
  rw [if_pos rfl]
  refine r_0 ?_
  unfold w_8
  rw [b_3 t1,b_3 t2,b_3 (w.trans we)]
  rfl
 |false=>
  obtain⟨k,hk,w⟩:=r1 hb
  obtain⟨Δ,w⟩:=w (3000 - k)
  rw [show 3000 - k + k=3000 by omega] at w
  rw [if_neg Bool.false_ne_true]
  unfold h_4 bodyD w_8
  rw [b_3 t1,b_3 t2]
  unfold sSeq
  rw [w]
def pcN(leaf:Int):Nat→Nat→Nat
 |0,_=>1
 |n + 1,z=>if(z:Int)≤leaf then 1 else 1 + pcN leaf n ((z + 1) / 2) + pcN leaf n (z - (z + 1) / 2)
theorem ak_2(leaf:Int):∀n z,1≤pcN leaf n z
 |0,_=>Nat.le_refl _
 |n + 1,z=>by
  unfold pcN
  split
  ·exact Nat.le_refl _
  ·omega
theorem az_7{leaf:Int}(hf:1≤leaf):∀(n m z:Nat),z≤n→z≤m→pcN leaf n z=pcN leaf m z
 |0,0,z,_,_=>rfl
 |0,m + 1,z,h1,h2=>by
  have:(z:Int)≤leaf:=by omega
  simp only [pcN,this,if_true]
 |n + 1,0,z,h1,h2=>by
  have:(z:Int)≤leaf:=by omega
  simp only [pcN,this,if_true]
 |n + 1,m + 1,z,h1,h2=>by
  unfold pcN
  by_cases c:(z:Int)≤leaf
  ·simp only [c,if_true]
  ·simp only [c,if_false]
   rw [az_7 hf n m ((z + 1) / 2) (by omega) (by omega),az_7 hf n m (z - (z + 1) / 2) (by omega) (by omega)]
def pc(leaf:Int)(z:Nat):Nat:=pcN leaf z z
theorem ak_3{leaf:Int}(hf:1≤leaf){z:Nat}(h:(z:Int)≤leaf):pc leaf z=1:=by
 unfold pc
 cases z with
 |zero=>rfl
 |succ z=>simp only [pcN,h,if_true]
theorem ak_4{leaf:Int}(hf:1≤leaf){z:Nat}(h:¬(z:Int)≤leaf):pc leaf z=1 + pc leaf ((z + 1) / 2) + pc leaf (z - (z + 1) / 2):=by
 unfold pc
 obtain⟨y,rfl⟩:∃y,z=y + 1:=⟨z - 1,by omega⟩
 rw [show pcN leaf (y + 1) (y + 1)=1 + pcN leaf y ((y + 1 + 1) / 2) + pcN leaf y (y + 1 - (y + 1 + 1) / 2) from if_neg h]
 rw [az_7 hf y ((y + 1 + 1) / 2) _ (by omega) (by omega),az_7 hf y (y + 1 - (y + 1 + 1) / 2) _ (by omega) (by omega)]
theorem n_9{leaf:Int}(hf:1≤leaf):∀(n z:Nat),z < n→e_7 n [.int (z:Int), .int leaf]= .ok (.sh (.int (pc leaf z:Nat)))∧f_8 n [.int (z:Int), .int leaf]= .ok (.sh (.int (pc leaf z:Nat)))
 |0,z,h=>by omega
 |n + 1,z,h=>by
  show bodyD 3 (j_1 (e_7 n)) _=_∧bodyD 3 (m_4 (f_8 n)) _=_
  by_cases c:(z:Int)≤leaf
  ·rw [ak_3 hf c]
   constructor
   ·simp_arith [j_1,evs,ac_5,c,decide_true];rfl
   ·simp_arith [m_4,evs,i_9 _ leaf hf,c,decide_true];rfl
  ·obtain⟨a1,a2⟩:=n_9 hf n ((z + 1) / 2) (by omega)
   obtain⟨b1,b2⟩:=n_9 hf n (z - (z + 1) / 2) (by omega)
   have e1:((z:Int) + 1) / 2=(((z + 1) / 2:Nat):Int):=by omega
   have e2:(z:Int) - (((z + 1) / 2:Nat):Int)=((z - (z + 1) / 2:Nat):Int):=by omega
   have e3:(1:Int) + (pc leaf ((z + 1) / 2):Nat) + (pc leaf (z - (z + 1) / 2):Nat)=(pc leaf z:Nat):=by rw [ak_4 hf c];omega
   constructor
   ·simp_arith [j_1,evs,ac_5,c,decide_false,e_6,o_7 (show(0:Int) < 2 by decide) (by decide),e1,u_3,e2,a1,b1,e3]
   ·simp_arith [m_4,evs,i_9 _ leaf hf,c,decide_false,ak_1,e1,u_3,e2,a2,b2,e_6,e3]
def rmZ(leaf:Int)(S:List Int)(x:Int):Nat→Nat→Nat→Nat→Int
 |0,_,_,_=>0
 |n + 1,z,a,p=>if(z:Int)≤leaf then(p:Int) + e_3 x (S.getD a 0) (z:Int) else
  if e_3 x (S.getD a 0) 2=0 then rmZ leaf S x n ((z + 1) / 2) (a + 1) p else rmZ leaf S x n (z - (z + 1) / 2) (a + 1 + pc leaf ((z + 1) / 2)) (p + (z + 1) / 2)
theorem bl_1{leaf:Int}(hf:1≤leaf)(S:List Int)(x:Int):∀(n z a p:Nat),1≤z→z≤n→(p:Int)≤rmZ leaf S x n z a p∧rmZ leaf S x n z a p < ((p + z:Nat):Int)
 |0,z,a,p,h1,h2=>by omega
 |n + 1,z,a,p,h1,h2=>by
  unfold rmZ
  by_cases c:(z:Int)≤leaf
  ·simp only [c,if_true]
   have:=t_4 x (S.getD a 0) (z:Int) (by omega)
   omega
  ·simp only [c,if_false]
   by_cases d:e_3 x (S.getD a 0) 2=0
   ·simp only [d,if_true]
    have:=bl_1 hf S x n ((z + 1) / 2) (a + 1) p (by omega) (by omega)
    omega
   ·simp only [d,if_false]
    have:=bl_1 hf S x n (z - (z + 1) / 2) (a + 1 + pc leaf ((z + 1) / 2)) (p + (z + 1) / 2) (by omega) (by omega)
    omega
section
variable{leaf:Int}{S:List Int}{x:Int}
theorem y_1{a:Nat}(h:a < S.length):ixD (.lst (S.map .int)) (.int (a:Int))= .ok (.sh (.int (S.getD a 0))):=by
 refine aa_4 (au_6 ?_)
 rw [List.getElem?_map,List.getElem?_eq_getElem h]
 simp [List.getD,h]
theorem ak_5(hS:∀s∈S,0≤s∧s < 1000){a:Nat}(h:a < S.length):0≤S.getD a 0∧S.getD a 0 < 1000:=by
 have:S.getD a 0=S[a]:=by simp [List.getD,h]
 rw [this]
 exact hS _ (List.getElem_mem h)
theorem an_6(hf:1≤leaf)(hS:∀s∈S,0≤s∧s < 1000):∀(n z a p:Nat) (a6:Sl),1≤z→z≤n→n≤44→a + pc leaf z≤S.length→∀m,n < m→∃(z' a' p':Nat) (b6:Sl),(z':Int)≤leaf∧1≤z'∧a' < S.length∧rmZ leaf S x n z a p=(p':Int) + e_3 x (S.getD a' 0) (z':Int)∧
  f_1 [2,3] m_2 j_2 m [.sh (.int x), .sh (.lst (S.map .int)), .sh (.int (z:Int)), .sh (.int leaf), .sh (.int (p:Int)), .sh (.int (a:Int)),a6]= .nx [.sh (.int x), .sh (.lst (S.map .int)), .sh (.int (z':Int)), .sh (.int leaf), .sh (.int (p':Int)), .sh (.int (a':Int)),b6]
 |0,z,a,p,a6,h1,h2,_,_,_,_=>by omega
 |n + 1,z,a,p,a6,h1,h2,h3,h4,m,hm=>by
  obtain⟨m,rfl⟩:∃j,m=j + 1:=⟨m - 1,by omega⟩
  have hv:∀q:Sl,vall [.sh (.int x), .sh (.lst (S.map .int)), .sh (.int (z:Int)), .sh (.int leaf), .sh (.int (p:Int)), .sh (.int (a:Int)),q]= [some (.int x),some (.lst (S.map .int)),some (.int (z:Int)),some (.int leaf),some (.int (p:Int)),some (.int (a:Int)),q.any]:=fun _=>rfl
  by_cases c:(z:Int)≤leaf
  ·rw [ak_3 hf c] at h4
   refine⟨z,a,p,a6,c,h1,by omega,by simp only [rmZ,c,if_true],t_0 ?_⟩
   have c':¬leaf < (z:Int):=by omega
   rw [hv]
   simp_arith [m_2,evs,at_8,c',decide_false]
  ·have c':leaf < (z:Int):=by omega
   have ht:m_2 (vall [.sh (.int x), .sh (.lst (S.map .int)), .sh (.int (z:Int)), .sh (.int leaf), .sh (.int (p:Int)), .sh (.int (a:Int)),a6])= .ok true:=by
    rw [hv]
    simp_arith [m_2,evs,at_8,c',decide_true]
   have hp:=ak_4 hf c
   have q1:=ak_2 leaf ((z + 1) / 2) ((z + 1) / 2)
   have q2:=ak_2 leaf (z - (z + 1) / 2) (z - (z + 1) / 2)
   unfold pc at hp h4
   have ha:a < S.length:=by omega
   obtain⟨s0,s1⟩:=ak_5 hS ha
   have e1:((z:Int) + 1) / 2=(((z + 1) / 2:Nat):Int):=by omega
   have mx:=(o_6 x (S.getD a 0) 2 (by omega) (by omega) (by decide)).2
   by_cases d:e_3 x (S.getD a 0) 2=0
   ·have hb:j_2 [.sh (.int x), .sh (.lst (S.map .int)), .sh (.int (z:Int)), .sh (.int leaf), .sh (.int (p:Int)), .sh (.int (a:Int)),a6]= .nx [.sh (.int x), .sh (.lst (S.map .int)), .sh (.int (((z + 1) / 2:Nat):Int)), .sh (.int leaf), .sh (.int (p:Int)), .sh (.int ((a + 1:Nat):Int)), .sh (.int (((z + 1) / 2:Nat):Int))]:=by
     simp_arith [j_2,evs,e_6,o_7 (show(0:Int) < 2 by decide) (by decide),e1,y_1 ha,mx,d,e_8,decide_true]
     rfl
    obtain⟨z',a',p',b6,g1,g2,g3,g4,g5⟩:=an_6 hf hS n ((z + 1) / 2) (a + 1) p (.sh (.int (((z + 1) / 2:Nat):Int))) (by omega) (by omega) (by omega) (by unfold pc;omega) m (by omega)
    exact⟨z',a',p',b6,g1,g2,g3,by simp only [rmZ,c,d,if_true,if_false];exact g4,(l_8 ht hb).trans g5⟩
   ·have e2:(z:Int) - (((z + 1) / 2:Nat):Int)=((z - (z + 1) / 2:Nat):Int):=by omega
    have mp:=(n_9 hf 45 ((z + 1) / 2) (by omega)).1
    have hb:j_2 [.sh (.int x), .sh (.lst (S.map .int)), .sh (.int (z:Int)), .sh (.int leaf), .sh (.int (p:Int)), .sh (.int (a:Int)),a6]= .nx [.sh (.int x), .sh (.lst (S.map .int)), .sh (.int ((z - (z + 1) / 2:Nat):Int)), .sh (.int leaf), .sh (.int ((p + (z + 1) / 2:Nat):Int)), .sh (.int ((a + 1 + pc leaf ((z + 1) / 2):Nat):Int)), .sh (.int (((z + 1) / 2:Nat):Int))]:=by
     simp_arith [j_2,evs,e_6,o_7 (show(0:Int) < 2 by decide) (by decide),e1,y_1 ha,mx,d,e_8,decide_false,mp,u_3,e2]
     rfl
    obtain⟨z',a',p',b6,g1,g2,g3,g4,g5⟩:=an_6 hf hS n (z - (z + 1) / 2) (a + 1 + pc leaf ((z + 1) / 2)) (p + (z + 1) / 2) (.sh (.int (((z + 1) / 2:Nat):Int))) (by omega) (by omega) (by omega) (by unfold pc;omega) m (by omega)
    exact⟨z',a',p',b6,g1,g2,g3,by simp only [rmZ,c,d,if_false];exact g4,(l_8 ht hb).trans g5⟩
theorem bh_2(hf:1≤leaf)(hS:∀s∈S,0≤s∧s < 1000){z:Nat}(h1:1≤z)(h2:z≤44)(h3:pc leaf z≤S.length):n_5 [.int x, .lst (S.map .int), .int (z:Int), .int leaf]= .ok (.sh (.int (rmZ leaf S x z z 0 0))):=by
 obtain⟨z',a',p',b6,g1,g2,g3,g4,g5⟩:=an_6 (x:=x) hf hS z z 0 0 .no h1 (Nat.le_refl _) h2 (by omega) 3000 (by omega)
 obtain⟨s0,s1⟩:=ak_5 hS g3
 have t1:sSet 4 [] (eC (.int 0)) (start3 7 [.int x, .lst (S.map .int), .int (z:Int), .int leaf])= .nx [.sh (.int x), .sh (.lst (S.map .int)), .sh (.int (z:Int)), .sh (.int leaf), .sh (.int ((0:Nat):Int)), .no, .no]:=by
  simp_arith [evs];rfl
 have t2:sSet 5 [] (eC (.int 0)) [.sh (.int x), .sh (.lst (S.map .int)), .sh (.int (z:Int)), .sh (.int leaf), .sh (.int ((0:Nat):Int)), .no, .no]= .nx [.sh (.int x), .sh (.lst (S.map .int)), .sh (.int (z:Int)), .sh (.int leaf), .sh (.int ((0:Nat):Int)), .sh (.int ((0:Nat):Int)), .no]:=by
  simp_arith [evs];rfl
 have mx:=(o_6 x (S.getD a' 0) (z':Int) (by omega) (by omega) (by omega)).2
 rw [g4]
 refine r_0 ?_
 unfold am_9
 rw [b_3 t1,b_3 t2,b_3 g5]
 have hv:vall [.sh (.int x), .sh (.lst (S.map .int)), .sh (.int (z':Int)), .sh (.int leaf), .sh (.int (p':Int)), .sh (.int (a':Int)),b6]= [some (.int x),some (.lst (S.map .int)),some (.int (z':Int)),some (.int leaf),some (.int (p':Int)),some (.int (a':Int)),b6.any]:=rfl
 unfold sRet
 rw [hv]
 simp_arith [evs,y_1 g3,mx,e_6]
end
theorem bh_3:∀(l acc:List Int),(l.foldl PyProof.Rows.step_dedup acc).length≤acc.length + l.length
 | [],acc=>Nat.le_refl _
 |x::l,acc=>by
  rw [List.foldl_cons]
  have:=bh_3 l (PyProof.Rows.step_dedup acc x)
  have h:(PyProof.Rows.step_dedup acc x).length≤acc.length + 1:=by
   unfold PyProof.Rows.step_dedup
   split
   ·omega
   ·simp
  simp only [List.length_cons]
  omega
theorem bh_4:∀(l acc:List Int),(l.foldl PyProof.Rows.step_dedup acc).length=acc.length + l.length→l.Nodup∧∀x∈l,x∉acc
 | [],_,_=>⟨List.nodup_nil,fun x hx=>by simp at hx⟩
 |x::l,acc,h=>by
  rw [List.foldl_cons] at h
  have hle:=bh_3 l (PyProof.Rows.step_dedup acc x)
  by_cases c:acc.any (· ==x)=true
  ·have e:PyProof.Rows.step_dedup acc x=acc:=by unfold PyProof.Rows.step_dedup;rw [if_pos c]
   rw [e] at h hle
   simp only [List.length_cons] at h
   omega
  ·have e:PyProof.Rows.step_dedup acc x=acc ++ [x]:=by unfold PyProof.Rows.step_dedup;rw [if_neg c]
   rw [e] at h
   have hx:x∉acc:=fun hx=>c (List.any_eq_true.mpr ⟨x,hx,by simp⟩)
   obtain⟨i1,i2⟩:=bh_4 l (acc ++ [x]) (by rw [h];simp;omega)
   refine⟨List.nodup_cons.mpr ⟨fun hm=>i2 x hm (by simp),i1⟩,fun y hy=> ?_⟩
   rcases List.mem_cons.mp hy with rfl|hy
   ·exact hx
   ·exact fun hm=>i2 y hy (by simp [hm])
theorem ct_5{l:List Int}(h:(met l).length=l.length):l.Nodup:=by
 unfold met PyProof.Rows.firstMet at h
 have e:(List.range l.length).map (fun i=>l.getD i 0)=l:=by
  refine List.ext_getElem? fun i=> ?_
  rw [List.getElem?_map]
  by_cases hi:i < l.length
  ·rw [List.getElem?_range hi,List.getElem?_eq_getElem hi]
   simp [List.getD,hi]
  ·rw [List.getElem?_eq_none (by simp;omega),List.getElem?_eq_none (by omega)]
   rfl
 rw [e] at h
 exact(bh_4 l [] (by rw [h];simp)).1
def q_2(p n:Nat):List Int:=(List.range n).map fun k=>((p + k:Nat):Int)
theorem cc_9:∀(n:Nat) (l:List Int),l.Nodup→(∀x∈l,0≤x∧x < (n:Int))→l.length≤n
 |0,l,_,hb=>by
  cases l with
  |nil=>exact Nat.le_refl _
  |cons x l=>have:=hb x (by simp);omega
 |n + 1,l,nd,hb=>by
  by_cases c:(n:Int)∈l
  ·have h1:=(List.perm_cons_erase c).length_eq
   have h2:=cc_9 n (l.erase (n:Int)) (nd.erase _) (fun x hx=>by
    have hm:=(List.Nodup.mem_erase_iff nd).mp hx
    have:=hb x hm.2
    have:=hm.1
    omega)
   rw [List.length_cons] at h1
   omega
  ·have:=cc_9 n l nd (fun x hx=>by
    have:=hb x hx
    have:x≠(n:Int):=fun e=>c (e▸hx)
    omega)
   omega
theorem bq_1:∀(n:Nat) (l:List Int),l.Nodup→(∀x∈l,0≤x∧x < (n:Int))→l.length=n→l.Perm (q_2 0 n)
 |0,l,_,hb,hl=>by rw [List.eq_nil_of_length_eq_zero hl];exact List.Perm.refl _
 |n + 1,l,nd,hb,hl=>by
  have c:(n:Int)∈l:=Decidable.byContradiction fun c=>by
   have:=cc_9 n l nd (fun x hx=>by
    have:=hb x hx
    have:x≠(n:Int):=fun e=>c (e▸hx)
    omega)
   omega
  have h1:=List.perm_cons_erase c
  have h2:=bq_1 n (l.erase (n:Int)) (nd.erase _) (fun x hx=>by
    have hm:=(List.Nodup.mem_erase_iff nd).mp hx
    have:=hb x hm.2
    have:=hm.1
    omega) (by have:=h1.length_eq;rw [List.length_cons] at this;omega)
  have h3:q_2 0 (n + 1)=q_2 0 n ++ [(n:Int)]:=by
   unfold q_2
   rw [List.range_succ,List.map_append]
   simp
  rw [h3]
  exact(h1.trans (h2.cons _)).trans (List.perm_append_singleton _ _).symm
theorem bl_2(p n:Nat):(q_2 0 n).map (fun y=>(p:Int) + y)=q_2 p n:=by
 unfold q_2
 rw [List.map_map]
 apply List.map_congr_left
 intro k _
 simp
theorem cd_0(p a b:Nat):q_2 p (a + b)=q_2 p a ++ q_2 (p + a) b:=by
 unfold q_2
 rw [List.range_add,List.map_append,List.map_map]
 congr 1
 apply List.map_congr_left
 intro k _
 simp
 omega
theorem bl_3(L:List Int)(s:Int):(b_5 0 L s ++ b_5 1 L s).Perm L:=by
 have:b_5 1 L s=L.filter fun x=> !decide (e_3 x s 2=0):=by
  unfold b_5
  apply List.filter_congr
  intro x _
  have hb:=t_4 x s 2 (by decide)
  rcases(show e_3 x s 2=0∨e_3 x s 2=1 by omega) with e|e <;> simp [e]
 rw [this]
 exact List.filter_append_perm _ _
theorem bh_5(a:List Int)(s:Int)(r:List Int):(a ++ s::r).getD a.length 0=s:=by
 simp [List.getD]
theorem ag_4{leaf:Int}{most:Nat}(hf:1≤leaf):∀(n:Nat) (L acc R:List Int),1≤L.length→L.length≤n→c_7 leaf most n L acc=(true,R)→
  ∃T,R=acc ++ T∧T.length=pc leaf L.length∧(∀t∈T,0≤t∧t < (most:Int))∧∀(U:List Int) (p:Nat),(L.map fun x=>rmZ leaf (R ++ U) x n L.length acc.length p).Perm (q_2 p L.length)
 |0,L,acc,R,h1,h2,_=>by omega
 |n + 1,L,acc,R,h1,h2,h=>by
  unfold c_7 at h
  cases e:m_6 leaf most L with
  |none=>rw [e] at h;cases h
  |some s=>
   rw [e] at h
   simp only at h
   obtain⟨hs,cq,_⟩:=p_5 e
   by_cases c:(L.length:Int)≤leaf
   ·rw [if_pos c] at h
    cases h
    refine⟨[(s:Int)],rfl,by rw [ak_3 hf c];rfl,fun t ht=>by rw [List.mem_singleton.mp ht];omega,fun U p=> ?_⟩
    unfold fitB at cq
    rw [if_pos c] at cq
    have hu:=of_decide_eq_true cq
    have hnd:(mixL L (s:Int)).Nodup:=ct_5 (by rw [ad_6];omega)
    have hp:=(bq_1 L.length (mixL L (s:Int)) hnd (fun x hx=>by
     obtain⟨y,_,rfl⟩:=List.mem_map.mp hx
     exact t_4 y (s:Int) _ (by omega)) (ad_6 L _)).map (fun y=>(p:Int) + y)
    rw [bl_2] at hp
    have hm:(L.map fun x=>rmZ leaf (acc ++ [(s:Int)] ++ U) x (n + 1) L.length acc.length p)=(mixL L (s:Int)).map (fun y=>(p:Int) + y):=by
     unfold mixL
     rw [List.map_map]
     apply List.map_congr_left
     intro x _
     have g:(acc ++ [(s:Int)] ++ U).getD acc.length 0=(s:Int):=by rw [List.append_assoc];exact bh_5 acc (s:Int) U
     simp only [rmZ,c,if_true,g]
     rfl
    rw [hm]
    exact hp
   ·rw [if_neg c] at h
    obtain⟨e0,e1,_⟩:=w_9 hf e c
    rcases hp:c_7 leaf most n (b_5 0 L (s:Int)) (acc ++ [(s:Int)]) with⟨b,r⟩
    rw [hp] at h
    cases b with
    |false=>cases h
    |true=>
     simp only at h
     obtain⟨T1,t1,t2,t3,t4⟩:=ag_4 hf n (b_5 0 L (s:Int)) (acc ++ [(s:Int)]) r (by omega) (by omega) hp
     obtain⟨T2,u1,u2,u3,u4⟩:=ag_4 hf n (b_5 1 L (s:Int)) r R (by omega) (by omega) h
     refine⟨[(s:Int)] ++ T1 ++ T2,by rw [u1,t1];simp, ?_, ?_,fun U p=> ?_⟩
     ·rw [ak_4 hf c,List.length_append,List.length_append,t2,u2,e0,e1];rfl
     ·intro t ht
      rcases List.mem_append.mp ht with ht|ht
      ·rcases List.mem_append.mp ht with ht|ht
       ·rw [List.mem_singleton.mp ht];omega
       ·exact t3 t ht
      ·exact u3 t ht
     ·have g:(R ++ U).getD acc.length 0=(s:Int):=by
       rw [u1,t1]
       simp only [List.append_assoc]
       exact bh_5 acc (s:Int) _
      have p1:=t4 (T2 ++ U) p
      have p2:=u4 U (p + (L.length + 1) / 2)
      rw [←List.append_assoc,←u1] at p1
      have m1:((b_5 0 L (s:Int)).map fun x=>rmZ leaf (R ++ U) x (n + 1) L.length acc.length p)=(b_5 0 L (s:Int)).map fun x=>rmZ leaf (R ++ U) x n (b_5 0 L (s:Int)).length (acc ++ [(s:Int)]).length p:=by
       apply List.map_congr_left
       intro x hx
       have d:=of_decide_eq_true (List.mem_filter.mp hx).2
       simp only [rmZ,c,if_false,g,d,if_true,e0,List.length_append,List.length_cons,List.length_nil]
      have m2:((b_5 1 L (s:Int)).map fun x=>rmZ leaf (R ++ U) x (n + 1) L.length acc.length p)=(b_5 1 L (s:Int)).map fun x=>rmZ leaf (R ++ U) x n (b_5 1 L (s:Int)).length r.length (p + (L.length + 1) / 2):=by
       apply List.map_congr_left
       intro x hx
       have d:=of_decide_eq_true (List.mem_filter.mp hx).2
       have d':¬e_3 x (s:Int) 2=0:=by omega
       have hr:r.length=acc.length + 1 + pc leaf ((L.length + 1) / 2):=by rw [t1,List.length_append,List.length_append,t2,e0];rfl
       simp only [rmZ,c,if_false,g,d',e1,hr]
      have hL:L.length=(b_5 0 L (s:Int)).length + (b_5 1 L (s:Int)).length:=by omega
      have bh:(L.map fun x=>rmZ leaf (R ++ U) x (n + 1) L.length acc.length p).Perm ((b_5 0 L (s:Int) ++ b_5 1 L (s:Int)).map fun x=>rmZ leaf (R ++ U) x (n + 1) L.length acc.length p):=((bl_3 L (s:Int)).symm.map _)
      rw [List.map_append,m1,m2] at bh
      refine bh.trans ?_
      have hE:q_2 p L.length=q_2 p (b_5 0 L (s:Int)).length ++ q_2 (p + (L.length + 1) / 2) (b_5 1 L (s:Int)).length:=by
       rw [←e0,←cd_0,←hL]
      rw [hE]
      exact p1.append p2
def k_2(n leaf:Int)(S:List Int):D:= .obj "Halved" ["how_many", "leaf", "salts"] [.int n, .int leaf, .lst (S.map .int)]
section
variable(n leaf:Int)(S:List Int)(r:List (Option D))
theorem az_8:eFld ["Halved"] "how_many" (eVar 0) (some (k_2 n leaf S)::r)= .ok (.sh (.int n)):=by kernel_rfl
theorem cl_6:eFld ["Halved"] "leaf" (eVar 0) (some (k_2 n leaf S)::r)= .ok (.sh (.int leaf)):=by kernel_rfl
theorem an_7:eFld ["Halved"] "salts" (eVar 0) (some (k_2 n leaf S)::r)= .ok (.sh (.lst (S.map .int))):=by kernel_rfl
end
theorem ct_6(F:List D→R W):([("Halved",F)]:List (Str×(List D→R W))).lookup ("Halved" :Str)=some F:=by kernel_rfl
theorem ad_7{n leaf:Int}{S:List Int}(m:Str)(k:Nat)(F:List D→R W)(fo:FE)(fa:FA)(δ:DE)(ds:List D)(hm:(["how_many", "leaf", "salts"]:List Str).contains m=false)(h1:fo δ= .ok (.sh (k_2 n leaf S)))(h2:fa δ= .ok ds)(h3:ds.length=k):j_6 m k [("Halved",F)] fo fa δ=F (k_2 n leaf S::ds):=by
 unfold k_2 at h1⊢
 simp only [j_6,h1,R.bind_ok,W.d_sh,hm,Bool.false_eq_true,if_false,ct_6,h2,h3,if_true]
theorem cd_1(t:Tn):Sl.pub (.lt t)=none:=rfl
theorem bq_2{Δ:SE}{i:Nat}{cs:List Str}{f c:Str}{js:List Nat}{fe:FE}{ns:List Str}{ts:List Tn}{w:W}(hg:gsome js Δ=Δ)(h0:Δ[i]? =some (.lt (.obj c ns ts)))(hc:cs.contains c=true∧ns.contains f=false∧ns.length < 1000)(he:fe (vsh Δ)= .ok w):
  w_2 i cs f js fe Δ= .nx (Δ.set i (.lt (.obj c (ns ++ [f]) (ts ++ [.sh w.d])))):=by
 unfold w_2
 rw [hg]
 simp only [h0,he,if_pos hc]
theorem bu_5(d:D):c_5 [d]= .ok (["how_many"], [d]):=by
 kernel_rfl
theorem cd_2{Δ:SE}{i:Nat}{c:Str}{js:List Nat}{F:List D→R (List Str×List D)}{fe:FE}{w:W}{p:List Str×List D}(hg:gsome js Δ=Δ)(h0:Δ[i]? =some (.lt (.obj c [] [])))(he:fe (vsh Δ)= .ok w)(hF:F [w.d]= .ok p):
  af_8 i c js F fe Δ= .nx (Δ.set i (.lt (.obj c p.1 (p.2.map .sh)))):=by
 unfold af_8
 rw [hg]
 simp only [h0,he,hF,if_true]
section
variable{leaf:Int}{S:List Int}{x:Int}{d M:D}
theorem az_9(fl:∀r,eFld ["Halved"] "leaf" (eVar 0) (some M::r)= .ok (.sh (.int leaf)))(fs:∀r,eFld ["Halved"] "salts" (eVar 0) (some M::r)= .ok (.sh (.lst (S.map .int))))(hf:1≤leaf)(hS:∀s∈S,0≤s∧s < 1000):∀(n z a p:Nat) (a6:Sl),1≤z→z≤n→n≤44→a + pc leaf z≤S.length→∀m,n < m→∃(z' a' p':Nat) (b6:Sl),(z':Int)≤leaf∧1≤z'∧a' < S.length∧rmZ leaf S x n z a p=(p':Int) + e_3 x (S.getD a' 0) (z':Int)∧
  f_1 [0,3] f_2 d_6 m [.sh M, .sh d, .sh (.int x), .sh (.int (z:Int)), .sh (.int (a:Int)), .sh (.int (p:Int)),a6]= .nx [.sh M, .sh d, .sh (.int x), .sh (.int (z':Int)), .sh (.int (a':Int)), .sh (.int (p':Int)),b6]
 |0,z,a,p,a6,h1,h2,_,_,_,_=>by omega
 |n + 1,z,a,p,a6,h1,h2,h3,h4,m,hm=>by
  obtain⟨m,rfl⟩:∃j,m=j + 1:=⟨m - 1,by omega⟩
  have hv:∀q:Sl,vall [.sh M, .sh d, .sh (.int x), .sh (.int (z:Int)), .sh (.int (a:Int)), .sh (.int (p:Int)),q]= [some M,some d,some (.int x),some (.int (z:Int)),some (.int (a:Int)),some (.int (p:Int)),q.any]:=fun _=>rfl
  by_cases c:(z:Int)≤leaf
  ·rw [ak_3 hf c] at h4
   refine⟨z,a,p,a6,c,h1,by omega,by simp only [rmZ,c,if_true],t_0 ?_⟩
   rw [hv]
   simp_arith [f_2,evs,fl,i_9 _ leaf hf,c,decide_true]
  ·have ht:f_2 (vall [.sh M, .sh d, .sh (.int x), .sh (.int (z:Int)), .sh (.int (a:Int)), .sh (.int (p:Int)),a6])= .ok true:=by
    rw [hv]
    simp_arith [f_2,evs,fl,i_9 _ leaf hf,c,decide_false]
   have hp:=ak_4 hf c
   have q1:=ak_2 leaf ((z + 1) / 2) ((z + 1) / 2)
   have q2:=ak_2 leaf (z - (z + 1) / 2) (z - (z + 1) / 2)
   unfold pc at hp h4
   have ha:a < S.length:=by omega
   obtain⟨s0,s1⟩:=ak_5 hS ha
   have e1:((z:Int) + 1) / 2=(((z + 1) / 2:Nat):Int):=by omega
   have mx:=(o_6 x (S.getD a 0) 2 (by omega) (by omega) (by decide)).1
   by_cases dd:e_3 x (S.getD a 0) 2=0
   ·have hb:d_6 [.sh M, .sh d, .sh (.int x), .sh (.int (z:Int)), .sh (.int (a:Int)), .sh (.int (p:Int)),a6]= .nx [.sh M, .sh d, .sh (.int x), .sh (.int (((z + 1) / 2:Nat):Int)), .sh (.int ((a + 1:Nat):Int)), .sh (.int (p:Int)), .sh (.int (((z + 1) / 2:Nat):Int))]:=by
     simp_arith [d_6,evs,ak_1,e1,fs,y_1 ha,mx,dd,e_8,decide_true,e_6]
     rfl
    obtain⟨z',a',p',b6,g1,g2,g3,g4,g5⟩:=az_9 fl fs hf hS n ((z + 1) / 2) (a + 1) p (.sh (.int (((z + 1) / 2:Nat):Int))) (by omega) (by omega) (by omega) (by unfold pc;omega) m (by omega)
    exact⟨z',a',p',b6,g1,g2,g3,by simp only [rmZ,c,dd,if_true,if_false];exact g4,(l_8 ht hb).trans g5⟩
   ·have e2:(z:Int) - (((z + 1) / 2:Nat):Int)=((z - (z + 1) / 2:Nat):Int):=by omega
    have mp:=(n_9 hf 45 ((z + 1) / 2) (by omega)).2
    have hb:d_6 [.sh M, .sh d, .sh (.int x), .sh (.int (z:Int)), .sh (.int (a:Int)), .sh (.int (p:Int)),a6]= .nx [.sh M, .sh d, .sh (.int x), .sh (.int ((z - (z + 1) / 2:Nat):Int)), .sh (.int ((a + 1 + pc leaf ((z + 1) / 2):Nat):Int)), .sh (.int ((p + (z + 1) / 2:Nat):Int)), .sh (.int (((z + 1) / 2:Nat):Int))]:=by
     simp_arith [d_6,evs,ak_1,e1,fs,fl,y_1 ha,mx,dd,e_8,decide_false,e_6,mp,u_3,e2]
     rfl
    obtain⟨z',a',p',b6,g1,g2,g3,g4,g5⟩:=az_9 fl fs hf hS n (z - (z + 1) / 2) (a + 1 + pc leaf ((z + 1) / 2)) (p + (z + 1) / 2) (.sh (.int (((z + 1) / 2:Nat):Int))) (by omega) (by omega) (by omega) (by unfold pc;omega) m (by omega)
    exact⟨z',a',p',b6,g1,g2,g3,by simp only [rmZ,c,dd,if_false];exact g4,(l_8 ht hb).trans g5⟩
end
structure Sal(leaf:Int)(S:List Int)(z:Nat):Prop where
 f:1≤leaf
 b:∀s∈S,0≤s∧s < 1000
 h1:1≤z
 h2:z≤44
 len:pc leaf z≤S.length
def h_5(leaf:Int)(S:List Int)(z:Nat)(d:D):Int:=rmZ leaf S (c_2 d) z z 0 0
theorem cl_7{leaf:Int}{S:List Int}{z:Nat}(h:Sal leaf S z)(d:D):0≤h_5 leaf S z d∧h_5 leaf S z d < (z:Int):=by
 have:=bl_1 h.f S (c_2 d) z z 0 0 h.h1 (Nat.le_refl _)
 unfold h_5
 omega
theorem bu_6{leaf:Int}{S:List Int}{z:Nat}(h:Sal leaf S z){d:D}(hd:isKey d):d_4 [k_2 (z:Int) leaf S,d]= .ok (.sh (.int (h_5 leaf S z d))):=by
 obtain⟨z',a',p',b6,g1,g2,g3,g4,g5⟩:=az_9 (x:=c_2 d) (d:=d) (cl_6 (z:Int) leaf S) (an_7 (z:Int) leaf S) h.f h.b z z 0 0 .no h.h1 (Nat.le_refl _) h.h2 (by have:=h.len;omega) 3000 (by have:=h.h2;omega)
 obtain⟨s0,s1⟩:=ak_5 h.b g3
 have mx:=(o_6 (c_2 d) (S.getD a' 0) (z':Int) (by omega) (by omega) (by omega)).1
 have fm:=az_8 (z:Int) leaf S
 have fs:=an_7 (z:Int) leaf S
 unfold h_5
 rw [g4]
 generalize k_2 (z:Int) leaf S=M at *
 have t1:sSet 2 [1] (eFn 1 r_1 (aCons (eVar 1) aNil)) (start3 7 [M,d])= .nx [.sh M, .sh d, .sh (.int (c_2 d)), .no, .no, .no, .no]:=by
  simp_arith [evs,bg_6 hd]
 have t2:sSet 3 [0] (eFld ["Halved"] "how_many" (eVar 0)) [.sh M, .sh d, .sh (.int (c_2 d)), .no, .no, .no, .no]= .nx [.sh M, .sh d, .sh (.int (c_2 d)), .sh (.int (z:Int)), .no, .no, .no]:=by
  simp_arith [evs,fm]
 have t3:sSet 4 [] (eC (.int 0)) [.sh M, .sh d, .sh (.int (c_2 d)), .sh (.int (z:Int)), .no, .no, .no]= .nx [.sh M, .sh d, .sh (.int (c_2 d)), .sh (.int (z:Int)), .sh (.int ((0:Nat):Int)), .no, .no]:=by
  simp_arith [evs];rfl
 have t4:sSet 5 [] (eC (.int 0)) [.sh M, .sh d, .sh (.int (c_2 d)), .sh (.int (z:Int)), .sh (.int ((0:Nat):Int)), .no, .no]= .nx [.sh M, .sh d, .sh (.int (c_2 d)), .sh (.int (z:Int)), .sh (.int ((0:Nat):Int)), .sh (.int ((0:Nat):Int)), .no]:=by
  simp_arith [evs];rfl
 refine r_0 ?_
 unfold q_0
 rw [b_3 t1,b_3 t2,b_3 t3,b_3 t4,b_3 g5]
 have hv:vall [.sh M, .sh d, .sh (.int (c_2 d)), .sh (.int (z':Int)), .sh (.int (a':Int)), .sh (.int (p':Int)),b6]= [some M,some d,some (.int (c_2 d)),some (.int (z':Int)),some (.int (a':Int)),some (.int (p':Int)),b6.any]:=rfl
 unfold sRet
 rw [hv]
 simp_arith [evs,fs,y_1 g3,mx,e_6]
theorem cd_3:(["how_many", "leaf", "salts"]:List Str).contains "number_of" =false:=by decide +kernel
theorem cd_4:(["how_many", "leaf", "salts"]:List Str).contains "room" =false:=by decide +kernel
theorem ak_6:(["how_many", "leaf", "salts"]:List Str).contains "rooms" =false:=by decide +kernel
theorem au_9:(["how_many", "leaf", "salts"]:List Str).contains "numbers" =false:=by decide +kernel
theorem ct_7:(["how_many", "leaf", "salts"]:List Str).contains "many" =false:=by decide +kernel
theorem bq_3{leaf:Int}{S:List Int}{z:Nat}(h:Sal leaf S z){d:D}(hd:isKey d):c_3 [k_2 (z:Int) leaf S,d]= .ok (.sh (.int (h_5 leaf S z d))):=by
 have hm:=ad_7 (n:=(z:Int)) (leaf:=leaf) (S:=S) "number_of" 1 d_4 (eVar 0) (aCons (eVar 1) aNil) [some (k_2 (z:Int) leaf S),some d] [d] cd_3 rfl rfl rfl
 rw [bu_6 h hd] at hm
 have hf:=az_8 (z:Int) leaf S [some d]
 have c:min (h_5 leaf S z d) ((z:Int) - 1)=h_5 leaf S z d:=by have:=cl_7 h d;omega
 generalize k_2 (z:Int) leaf S=M at *
 simp_arith [c_3,z_2,evs,hm,hf,u_3,bk_2,c]
theorem ad_8{leaf:Int}{S:List Int}{z:Nat}(h:Sal leaf S z){ls:List D}(hk:∀k∈ls,isKey k)(hl:ls.length≤100000):b_2 [k_2 (z:Int) leaf S, .lst ls]= .ok (.ow (.lst ((ls.map (h_5 leaf S z)).map .int))):=by
 have q1:sExpr [1] (eFn 1 f_4 (aCons (eVar 1) aNil)) (start3 2 [k_2 (z:Int) leaf S, .lst ls])= .nx [.sh (k_2 (z:Int) leaf S), .sh (.lst ls)]:=by
  generalize k_2 (z:Int) leaf S=M
  simp_arith [evs,bp_6 hk]
 have ec:=g_3 (m:=1) (fi:=iOf (eVar 1)) (fg:=gC 2) (p:=fun _=> .ok true) (f:=t_1) (δ:= [some (k_2 (z:Int) leaf S),some (.lst ls)]) (ds:=ls) (by simp_arith [evs]) (by omega)
  (o_1 (fun d=> .int (h_5 leaf S z d)) ls fun d hd=>⟨[some (k_2 (z:Int) leaf S),some (.lst ls),some d], .sh (.int (h_5 leaf S z d)),rfl,by
   have hm:=ad_7 (n:=(z:Int)) (leaf:=leaf) (S:=S) "room" 1 c_3 (eVar 0) (aCons (eVar 2) aNil) [some (k_2 (z:Int) leaf S),some (.lst ls),some d] [d] cd_4 rfl rfl rfl
   rw [bq_3 h (hk d hd)] at hm
   exact hm,rfl⟩)
 have hmm:(ls.map fun d=>D.int (h_5 leaf S z d))=(ls.map (h_5 leaf S z)).map .int:=by rw [List.map_map];rfl
 rw [hmm] at ec
 unfold b_2 bodyD w_6
 rw [b_3 q1]
 have hv:vall [.sh (k_2 (z:Int) leaf S), .sh (.lst ls)]= [some (k_2 (z:Int) leaf S),some (.lst ls)]:=rfl
 unfold sRet
 rw [hv,ec]
theorem bl_4(n leaf:Int)(S:List Int):c_1 [k_2 n leaf S]= .ok (.ow (.lst (S.map .int))):=by
 have hf:=an_7 n leaf S []
 generalize k_2 n leaf S=M at *
 simp_arith [c_1,t_2,evs,hf,s_0]
theorem cl_8(n leaf:Int)(S:List Int):f_6 [k_2 n leaf S]= .ok (.sh (.int n)):=by
 have hf:=az_8 n leaf S []
 generalize k_2 n leaf S=M at *
 simp_arith [f_6,z_3,evs,hf]
theorem ag_5(i:Int):i_6 [.int i]= .ok (.sh (.bl true)):=by
 simp_arith [i_6,ah_5,evs]
theorem ad_9(vs:List Int):okD 1 (.lst (vs.map .int))=true:=by
 show(vs.map D.int).all (okD 0)=true
 exact cb_3 0 (fun p:Int=>p) _
theorem cl_9(ks:List D):(v_9 ks none (some 1)).length≤ks.length∧∀k∈v_9 ks none (some 1),k∈ks:=by
 constructor
 ·unfold v_9
  rw [List.length_take,List.length_drop]
  omega
 ·exact fun k hk=>List.mem_of_mem_drop (List.mem_of_mem_take hk)
theorem cd_5{leaf:Int}{S:List Int}{ks:List D}(h:Sal leaf S ks.length)(hk:∀k∈ks,isKey k)(hSl:S.length≤10000):i_8 [k_2 (ks.length:Int) leaf S, .lst ks, .lst ((ks.map (h_5 leaf S ks.length)).map .int), .lst (S.map .int)]= .ok (.sh (.bl true)):=by
 have h2:=h.h2
 have rk:=ad_8 h hk (by omega)
 have rr:=ad_8 h (ls:=ks.reverse) (fun k hm=>hk k (List.mem_reverse.mp hm)) (by rw [List.length_reverse];omega)
 obtain⟨cl,cm⟩:=cl_9 ks
 have rc:=ad_8 h (ls:=v_9 ks none (some 1)) (fun k hm=>hk k (cm k hm)) (by omega)
 have r0:=ad_8 h (ls:= []) (fun k hm=>by simp at hm) (by simp)
 rw [List.map_reverse,List.map_reverse] at rr
 have nb:=bl_4 (ks.length:Int) leaf S
 have mn:=cl_8 (ks.length:Int) leaf S
 have me:=fun(m:Str) (k:Nat) (F:List D→R W) (fa:FA) (δ:DE) (ds:List D) (hm:(["how_many", "leaf", "salts"]:List Str).contains m=false) (h1:eVar 0 δ= .ok (.sh (k_2 (ks.length:Int) leaf S))) (h2:fa δ= .ok ds) (h3:ds.length=k)=>ad_7 m k F (eVar 0) fa δ ds hm h1 h2 h3
 generalize hrs:(ks.map (h_5 leaf S ks.length)).map D.int=rs at *
 have okR:okD 1 (.lst rs)=true:=by rw [←hrs];exact ad_9 _
 have ei:okD 1 (.lst rs.reverse)=true:=by rw [←hrs,←List.map_reverse];exact ad_9 _
 have okS:okD 1 (.lst (S.map .int))=true:=ad_9 S
 generalize k_2 (ks.length:Int) leaf S=M at *
 have u1:sIf [0,1,2] (tOrF (eTest (eOp neD (j_6 "rooms" 1 [("Halved",b_2)] (eVar 0) (aCons (eCall s_0 (aCons (eVar 1) aNil)) aNil)) (eVar 2))) (eTest (eOp neD (j_6 "rooms" 1 [("Halved",b_2)] (eVar 0) (aCons (j_8 (eVar 1)) aNil)) (j_8 (eVar 2)))))
   (sRet [] (eC (.bl false))) sNil (start3 5 [M, .lst ks, .lst rs, .lst (S.map .int)])= .nx [.sh M, .sh (.lst ks), .sh (.lst rs), .sh (.lst (S.map .int)), .no]:=by
  have hv:vall (start3 5 [M, .lst ks, .lst rs, .lst (S.map .int)])= [some M,some (.lst ks),some (.lst rs),some (.lst (S.map .int)),none]:=rfl
  have m1:=me "rooms" 1 b_2 (aCons (eCall s_0 (aCons (eVar 1) aNil)) aNil) [some M,some (.lst ks),some (.lst rs),some (.lst (S.map .int)),none] [.lst ks] ak_6 rfl (by simp_arith [evs,s_0]) rfl
  have m2:=me "rooms" 1 b_2 (aCons (j_8 (eVar 1)) aNil) [some M,some (.lst ks),some (.lst rs),some (.lst (S.map .int)),none] [.lst ks.reverse] ak_6 rfl (by simp_arith [evs,j_8]) rfl
  rw [rk] at m1
  rw [rr] at m2
  have ht:tOrF (eTest (eOp neD (j_6 "rooms" 1 [("Halved",b_2)] (eVar 0) (aCons (eCall s_0 (aCons (eVar 1) aNil)) aNil)) (eVar 2))) (eTest (eOp neD (j_6 "rooms" 1 [("Halved",b_2)] (eVar 0) (aCons (j_8 (eVar 1)) aNil)) (j_8 (eVar 2)))) [some M,some (.lst ks),some (.lst rs),some (.lst (S.map .int)),none]= .ok false:=by
   unfold tOrF eTest eOp
   rw [m1,m2]
   simp_arith [evs,j_8,ad_4 1 okR,ad_4 1 ei]
  unfold sIf
  rw [hv,ht]
  rfl
 have u2:sSet 4 [0] (j_6 "numbers" 0 [("Halved",c_1)] (eVar 0) aNil) [.sh M, .sh (.lst ks), .sh (.lst rs), .sh (.lst (S.map .int)), .no]= .nx [.sh M, .sh (.lst ks), .sh (.lst rs), .sh (.lst (S.map .int)), .ow (.lst (S.map .int))]:=by
  have m1:=me "numbers" 0 c_1 aNil (vsh [.sh M, .sh (.lst ks), .sh (.lst rs), .sh (.lst (S.map .int)), .no]) [] au_9 rfl rfl rfl
  rw [nb] at m1
  unfold sSet
  rw [m1]
  rfl
 have hc:=p_4 (fg:=gC 5) (p:=k_0) (f:=eVar 5) (δ:= [some M,some (.lst ks),some (.lst rs),some (.lst (S.map .int)),some (.lst (S.map .int)),none]) (fun _=>false) (fun d=>d) (S.map .int) (fun d hd=>by
  obtain⟨t,ht,rfl⟩:=List.mem_map.mp hd
  refine⟨_,rfl, ?_,fun z=>absurd z Bool.false_ne_true⟩
  simp_arith [k_0,evs,ag_5])
 rw [List.filter_eq_nil_iff.mpr (fun _ _=>by simp)] at hc
 have ec:=g_3 (m:=1) (fi:=iOf (eVar 4)) (fg:=gC 5) (p:=k_0) (f:=eVar 5) (δ:= [some M,some (.lst ks),some (.lst rs),some (.lst (S.map .int)),some (.lst (S.map .int))]) (ds:=S.map .int) (by simp_arith [evs]) (by rw [List.length_map];omega) hc
 have en:neD (.lst []) (.lst [])= .ok (.sh (.bl false)):=rfl
 have ee:eqD (.lst []) (.lst [])= .ok (.sh (.bl true)):=rfl
 have u3:sIf [3,4] (tOrF (tNotF (eTruth (eIs "list" (eVar 4)))) (tOrF (eTest (eOp neD (eVar 4) (eVar 3))) (eTest (eOp neD (c_8 1 (iOf (eVar 4)) (gC 5) k_0 (eVar 5)) (eLst aNil))))) (sRet [] (eC (.bl false))) sNil [.sh M, .sh (.lst ks), .sh (.lst rs), .sh (.lst (S.map .int)), .ow (.lst (S.map .int))]= .nx [.sh M, .sh (.lst ks), .sh (.lst rs), .sh (.lst (S.map .int)), .ow (.lst (S.map .int))]:=by
  simp_arith [evs,ad_4 1 okS,ec,List.map_nil,en]
 have fb:(S.map D.int).length < 16777216:=by rw [List.length_map];omega
 have u4:sApp 4 (eC (.int 0)) [.sh M, .sh (.lst ks), .sh (.lst rs), .sh (.lst (S.map .int)), .ow (.lst (S.map .int))]= .nx [.sh M, .sh (.lst ks), .sh (.lst rs), .sh (.lst (S.map .int)), .ow (.lst (S.map .int ++ [.int 0]))]:=by
  simp_arith [sApp,evs,fb]
 have u5:bg_0 (j_6 "rooms" 1 [("Halved",b_2)] (eVar 0) (aCons (eSlice (eVar 1) oNone (oSome (eC (.int 1)))) aNil)) (eC (.int 0)) [.sh M, .sh (.lst ks), .sh (.lst rs), .sh (.lst (S.map .int)), .ow (.lst (S.map .int ++ [.int 0]))]= .nx [.sh M, .sh (.lst ks), .sh (.lst rs), .sh (.lst (S.map .int)), .ow (.lst (S.map .int ++ [.int 0]))]:=by
  have m1:=me "rooms" 1 b_2 (aCons (eSlice (eVar 1) oNone (oSome (eC (.int 1)))) aNil) (vsh [.sh M, .sh (.lst ks), .sh (.lst rs), .sh (.lst (S.map .int)), .ow (.lst (S.map .int ++ [.int 0]))]) [.lst (v_9 ks none (some 1))] ak_6 rfl (by simp_arith [evs,eSlice,aw_4]) rfl
  rw [rc] at m1
  unfold bg_0
  rw [m1]
  have:(((v_9 ks none (some 1)).map (h_5 leaf S ks.length)).map D.int).length < 16777216:=by rw [List.length_map,List.length_map];omega
  simp only [this,if_true]
  rfl
 have v1:=me "numbers" 0 c_1 aNil [some M,some (.lst ks),some (.lst rs),some (.lst (S.map .int)),some (.lst (S.map .int ++ [.int 0]))] [] au_9 rfl rfl rfl
 have v2:=me "rooms" 1 b_2 (aCons (eLst aNil) aNil) [some M,some (.lst ks),some (.lst rs),some (.lst (S.map .int)),some (.lst (S.map .int ++ [.int 0]))] [.lst []] ak_6 rfl rfl rfl
 have v3:=me "many" 0 f_6 aNil [some M,some (.lst ks),some (.lst rs),some (.lst (S.map .int)),some (.lst (S.map .int ++ [.int 0]))] [] ct_7 rfl rfl rfl
 rw [nb] at v1
 rw [r0] at v2
 rw [mn] at v3
 refine r_0 ?_
 unfold ah_7
 rw [b_3 u1,b_3 u2,b_3 u3,b_3 u4,b_3 u5]
 have hv:vall [.sh M, .sh (.lst ks), .sh (.lst rs), .sh (.lst (S.map .int)), .ow (.lst (S.map .int ++ [.int 0]))]= [some M,some (.lst ks),some (.lst rs),some (.lst (S.map .int)),some (.lst (S.map .int ++ [.int 0]))]:=rfl
 unfold sRet
 rw [hv]
 simp_arith [eAnd,eOp,v1,v2,v3,evs,cb_2 1 okS,List.map_nil,ee,e_9,e_8,decide_true]
theorem cm_0{ks:List D}(hk:∀k∈ks,isKey k):neD (.lst ks) (.lst ks)= .ok (.sh (.bl false)):=by
 obtain⟨b,hb,_,e⟩:=bg_5 hk hk
 have:b=true:=hb.mpr rfl
 subst this
 exact e
theorem an_8(ks:List D):(ks.map fun d=>D.int (c_2 d))=(ks.map c_2).map .int:=by rw [List.map_map];rfl
theorem cm_1{ks:List D}{leaf:Int}{most:Nat}(hk:∀k∈ks,isKey k)(nd:ks.Nodup)(h1:1≤ks.length)(h2:ks.length≤100)(hf:1≤leaf)(hm:most≤1000){b:Bool}{S:List Int}(hp:c_7 leaf most 100 (ks.map c_2) []=(b,S)):
  o_3 [.lst ks, .int leaf, .int (most:Int)]=if b=true then .ok (["how_many", "leaf", "salts"], [.int (ks.length:Int), .int leaf, .lst (S.map .int)]) else .ex (k_9 S.length):=by
 have lk:=cl_4 hk nd h1 (by omega)
 have hs:=cc_8 hf hm 100 (ks.map c_2) (by rw [List.length_map];exact h1) (by rw [List.length_map];exact h2) (by decide)
 rw [hp] at hs
 simp only at hs
 unfold o_3 at_6 r_4
 have q1:af_8 0 "Halved" [1] c_5 (eFn 1 l_3 (aCons (eVar 1) aNil)) (aw_8 4 "Halved" [.lst ks, .int leaf, .int (most:Int)])= .nx [.lt (.obj "Halved" ["how_many"] [.sh (.int (ks.length:Int))]), .sh (.lst ks), .sh (.int leaf), .sh (.int (most:Int))]:=by
  refine cd_2 (w:= .sh (.int (ks.length:Int))) (p:=(["how_many"], [.int (ks.length:Int)])) rfl rfl ?_ (bu_5 _)
  exact lk
 have q2:w_2 0 ["Halved"] "leaf" [2] (eVar 2) [.lt (.obj "Halved" ["how_many"] [.sh (.int (ks.length:Int))]), .sh (.lst ks), .sh (.int leaf), .sh (.int (most:Int))]= .nx [.lt (.obj "Halved" ["how_many", "leaf"] [.sh (.int (ks.length:Int)), .sh (.int leaf)]), .sh (.lst ks), .sh (.int leaf), .sh (.int (most:Int))]:=
  bq_2 (w:= .sh (.int leaf)) (c:= "Halved") (ns:= ["how_many"]) (ts:= [.sh (.int (ks.length:Int))]) rfl rfl (by decide +kernel) rfl
 have ec:=g_3 (m:=1) (fi:=iOf (eVar 1)) (fg:=gC 4) (p:=fun _=> .ok true) (f:=e_4) (δ:= [none,some (.lst ks),some (.int leaf),some (.int (most:Int))]) (ds:=ks) (by simp_arith [evs]) (by omega)
  (o_1 (fun d=> .int (c_2 d)) ks fun d hd=>⟨[none,some (.lst ks),some (.int leaf),some (.int (most:Int)),some d], .sh (.int (c_2 d)),rfl,by simp_arith [e_4,evs,bg_6 (hk d hd)],rfl⟩)
 rw [an_8] at ec
 rw [b_3 q1,b_3 q2]
 cases b with
 |true=>
  rw [if_pos rfl] at hs
  have q3:w_2 0 ["Halved"] "salts" [1,2,3] (eFn 3 h_4 (aCons (c_8 1 (iOf (eVar 1)) (gC 4) (fun _=> .ok true) e_4) (aCons (eVar 2) (aCons (eVar 3) aNil)))) [.lt (.obj "Halved" ["how_many", "leaf"] [.sh (.int (ks.length:Int)), .sh (.int leaf)]), .sh (.lst ks), .sh (.int leaf), .sh (.int (most:Int))]=
    .nx [.lt (.obj "Halved" ["how_many", "leaf", "salts"] [.sh (.int (ks.length:Int)), .sh (.int leaf), .sh (.lst (S.map .int))]), .sh (.lst ks), .sh (.int leaf), .sh (.int (most:Int))]:=by
   refine bq_2 (w:= .ow (.lst (S.map .int))) (c:= "Halved") (ns:= ["how_many", "leaf"]) (ts:= [.sh (.int (ks.length:Int)), .sh (.int leaf)]) rfl rfl (by decide +kernel) ?_
   simp_arith [evs,cd_1,ec,hs]
  rw [q3]
  simp only [List.getElem?_cons_zero,if_true,unT,Option.map_some]
 |false=>
  rw [if_neg Bool.false_ne_true] at hs
  have q3:w_2 0 ["Halved"] "salts" [1,2,3] (eFn 3 h_4 (aCons (c_8 1 (iOf (eVar 1)) (gC 4) (fun _=> .ok true) e_4) (aCons (eVar 2) (aCons (eVar 3) aNil)))) [.lt (.obj "Halved" ["how_many", "leaf"] [.sh (.int (ks.length:Int)), .sh (.int leaf)]), .sh (.lst ks), .sh (.int leaf), .sh (.int (most:Int))]=
    .ex (k_9 S.length) [.lt (.obj "Halved" ["how_many", "leaf"] [.sh (.int (ks.length:Int)), .sh (.int leaf)]), .sh (.lst ks), .sh (.int leaf), .sh (.int (most:Int))]:=by
   have he:eFn 3 h_4 (aCons (c_8 1 (iOf (eVar 1)) (gC 4) (fun _=> .ok true) e_4) (aCons (eVar 2) (aCons (eVar 3) aNil))) (vsh (gsome [1,2,3] [.lt (.obj "Halved" ["how_many", "leaf"] [.sh (.int (ks.length:Int)), .sh (.int leaf)]), .sh (.lst ks), .sh (.int leaf), .sh (.int (most:Int))]))= .ex (k_9 S.length):=by
    simp_arith [evs,cd_1,ec,hs]
   unfold w_2
   rw [he]
   rfl
  rw [q3]
  rfl
theorem cd_6(c:Int):∃(leaf:Int) (most:Nat),1≤leaf∧leaf≤6∧1≤most∧most≤200∧h_1 [.int c]= .ok (.sh (.tup [.int leaf, .int (most:Int)])):=by
 have a1:=i_0 (i:=c) (show(0:Int) < 6 by decide)
 have a2:=o_7 (i:=c) (show(0:Int) < 24 by decide) (by decide)
 have a3:=i_0 (i:=c / 24) (show(0:Int) < 40 by decide)
 have a4:=o_7 (i:=c) (show(0:Int) < 6 by decide) (by decide)
 have a5:=i_0 (i:=c / 6) (show(0:Int) < 4 by decide)
 have x0:ixD (.lst [.int (1 + c / 24 % 40), .int 100, .int 200, .int 200]) (.int 0)= .ok (.sh (.int (1 + c / 24 % 40))):=aa_4 (au_6 (i:=0) rfl)
 have x1:ixD (.lst [.int (1 + c / 24 % 40), .int 100, .int 200, .int 200]) (.int 1)= .ok (.sh (.int 100)):=aa_4 (au_6 (i:=1) rfl)
 have x2:ixD (.lst [.int (1 + c / 24 % 40), .int 100, .int 200, .int 200]) (.int 2)= .ok (.sh (.int 200)):=aa_4 (au_6 (i:=2) rfl)
 have x3:ixD (.lst [.int (1 + c / 24 % 40), .int 100, .int 200, .int 200]) (.int 3)= .ok (.sh (.int 200)):=aa_4 (au_6 (i:=3) rfl)
 rcases(show c / 6 % 4=0∨c / 6 % 4=1∨c / 6 % 4=2∨c / 6 % 4=3 by omega) with e|e|e|e
 ·refine⟨1 + c % 6,(1 + c / 24 % 40).toNat,by omega,by omega,by omega,by omega, ?_⟩
  rw [show(((1 + c / 24 % 40).toNat:Nat):Int)=1 + c / 24 % 40 by omega]
  simp_arith [h_1,o_2,evs,a1,a2,a3,a4,a5,e_6,e,x0]
 ·exact⟨1 + c % 6,100,by omega,by omega,by omega,by omega,by simp_arith [h_1,o_2,evs,a1,a2,a3,a4,a5,e_6,e,x1];rfl⟩
 ·exact⟨1 + c % 6,200,by omega,by omega,by omega,by omega,by simp_arith [h_1,o_2,evs,a1,a2,a3,a4,a5,e_6,e,x2];rfl⟩
 ·exact⟨1 + c % 6,200,by omega,by omega,by omega,by omega,by simp_arith [h_1,o_2,evs,a1,a2,a3,a4,a5,e_6,e,x3];rfl⟩
theorem x_0{leaf:Int}{most:Nat}(hf:1≤leaf):∀(n m:Nat) (L acc:List Int),1≤L.length→L.length≤n→L.length≤m→c_7 leaf most n L acc=c_7 leaf most m L acc
 |0,_,L,acc,h1,h2,_=>by omega
 |_,0,L,acc,h1,_,h3=>by omega
 |n + 1,m + 1,L,acc,h1,h2,h3=>by
  unfold c_7
  cases e:m_6 leaf most L with
  |none=>rfl
  |some s=>
   by_cases c:(L.length:Int)≤leaf
   ·simp only [c,if_true]
   ·obtain⟨e0,e1,_⟩:=w_9 hf e c
    simp only [c,if_false]
    rw [x_0 hf n m (b_5 0 L (s:Int)) _ (by omega) (by omega) (by omega)]
    rcases c_7 leaf most m (b_5 0 L (s:Int)) (acc ++ [(s:Int)]) with⟨b,r⟩
    cases b with
    |false=>rfl
    |true=>exact x_0 hf n m (b_5 1 L (s:Int)) r (by omega) (by omega) (by omega)
def keyC(z:Int):D:=Classical.choose (az_5 z)
theorem bq_4(z:Int):isKey (keyC z)∧h_9 [.int z]= .ok (.sh (keyC z)):=Classical.choose_spec (az_5 z)
theorem cx_7{l:List Int}{n:Nat}(hp:l.Perm (q_2 0 n))(hl:l.length < 64):at_9 [.lst (l.map .int)]= .ok (.ow (.lst ((q_2 0 n).map .int))):=by
 have h2:bf_7 l=q_2 0 n:=bf_8 hp.symm (by
  unfold q_2
  rw [List.pairwise_map]
  exact List.pairwise_lt_range.imp fun h=>by omega)
 simp only [at_9,bp_8,hl,if_true,h2]
theorem cn_2(n:Nat):(q_2 0 n).map D.int=e_5 0 n:=by
 unfold q_2 e_5
 rw [List.map_map]
 apply List.map_congr_left
 intro k _
 show D.int ((0 + k:Nat):Int)= .int (0 + (k:Int))
 rw [Nat.zero_add,Int.zero_add]
theorem cd_7(n:Nat):([("NoFit",true),("NoKey",false),("NoKeys",false),("Twice",false)]:List (Str×Bool)).lookup (k_9 n).c=some true:=by
 show List.lookup (Str.ofString "NoFit") _=_
 decide +kernel
theorem an_9{leaf:Int}(hf:1≤leaf)(S:List Int)(x:Int):∀(n m z a p:Nat),1≤z→z≤n→z≤m→rmZ leaf S x n z a p=rmZ leaf S x m z a p
 |0,_,z,_,_,h1,h2,_=>by omega
 |_,0,z,_,_,h1,_,h3=>by omega
 |n + 1,m + 1,z,a,p,h1,h2,h3=>by
  unfold rmZ
  by_cases q:(z:Int)≤leaf
  ·simp only [q,if_true]
  ·simp only [q,if_false]
   rw [an_9 hf S x n m _ _ _ (by omega) (by omega) (by omega),an_9 hf S x n m _ _ _ (by omega) (by omega) (by omega)]
theorem bl_5{leaf:Int}{most n:Nat}(hf:1≤leaf){ks:List D}{S:List Int}(h1:1≤ks.length)(h2:ks.length≤n)(hp:c_7 leaf most n (ks.map c_2) []=(true,S)):
  S.length=pc leaf ks.length∧(∀s∈S,0≤s∧s < (most:Int))∧(ks.map (h_5 leaf S ks.length)).Perm (q_2 0 ks.length):=by
 have hpl:(ks.map c_2).length=ks.length:=List.length_map _
 obtain⟨T,g1,g2,g3,g4⟩:=ag_4 hf n (ks.map c_2) [] S (by omega) (by omega) hp
 rw [List.nil_append] at g1
 subst g1
 rw [hpl] at g2
 refine⟨g2,g3, ?_⟩
 have aq:=g4 [] 0
 rw [hpl,List.append_nil,List.map_map] at aq
 refine List.Perm.trans (List.Perm.of_eq ?_) aq
 apply List.map_congr_left
 intro d _
 simp only [Function.comp_apply,List.length_nil]
 unfold h_5
 exact an_9 hf S (c_2 d) ks.length n ks.length 0 0 h1 (Nat.le_refl _) h2
theorem cd_8(ns:List Int)(hn:ns.length≤63):∃v,cb_0 [.lst (ns.map .int)]= .ok v∧v.d= .bl true:=by
 obtain⟨ks,hne,hl,hk,hd,ek⟩:=cl_2 ns 2 40 hn (by decide) (by decide) (by decide) (by decide)
 have fz:0 < ks.length:=List.length_pos_iff.mpr hne
 have ft:ks.length≤40:=by omega
 have er:=ag_1 ns 1 (by decide)
 generalize ns.getD (1:Int).toNat 0=c at er
 obtain⟨leaf,most,f1,f2,m1,m2,esh⟩:=cd_6 c
 obtain⟨c1,ec1⟩:=az_4 ns 1 (by decide) (by decide)
 have hpl:(ks.map c_2).length=ks.length:=List.length_map _
 rcases hp:c_7 leaf most 45 (ks.map c_2) [] with⟨b,S⟩
 have cg:c_7 leaf most 100 (ks.map c_2) []=(b,S):=(x_0 f1 100 45 _ _ (by omega) (by omega) (by omega)).trans hp
 have hpt:=ag_2 f1 (by omega:most≤1000) 45 (ks.map c_2) [] (by omega) (by omega) (by omega) (by simp;omega)
 have hSl:=q_1 (most:=most) f1 45 (ks.map c_2) [] (by omega)
 rw [hp] at hpt hSl
 simp only [List.map_nil,List.length_nil] at hpt hSl
 have ar:=cm_1 hk hd (by omega) (by omega) f1 (by omega:most≤1000) cg
 have nk:=cm_0 hk
 generalize hns:D.lst (ns.map .int)=nsD at *
 have t1:ay_8 (start3 14 [nsD])= .nx [.sh nsD, .ow (.lst ks), .no, .no, .no, .no, .no, .no, .no, .no, .no, .no, .no, .no]:=by
  simp_arith [ay_8,evs,ek]
 have t2:ay_9 [.sh nsD, .ow (.lst ks), .no, .no, .no, .no, .no, .no, .no, .no, .no, .no, .no, .no]= .nx [.sh nsD, .ow (.lst ks), .no, .no, .no, .no, .no, .no, .sh (.int leaf), .sh (.int (most:Int)), .no, .no, .no, .no]:=by
  simp_arith [ay_9,evs,sUnp,er,esh,gP]
 have ecs:=g_3 (m:=1) (fi:=iOf (eVar 1)) (fg:=gC 14) (p:=fun _=> .ok true) (f:=ad_1) (δ:= [some nsD,some (.lst ks),none,none,none,none,none,none,some (.int leaf),some (.int (most:Int)),none,none,none,none]) (ds:=ks) (by simp_arith [evs]) (by omega)
  (o_1 (fun d=> .int (c_2 d)) ks fun d hd=>⟨[some nsD,some (.lst ks),none,none,none,none,none,none,some (.int leaf),some (.int (most:Int)),none,none,none,none,some d], .sh (.int (c_2 d)),rfl,by simp_arith [ad_1,evs,u_8 (hk d hd)],rfl⟩)
 rw [an_8] at ecs
 have t3:az_0 [.sh nsD, .ow (.lst ks), .no, .no, .no, .no, .no, .no, .sh (.int leaf), .sh (.int (most:Int)), .no, .no, .no, .no]= .nx [.sh nsD, .sh (.lst ks), .no, .no, .no, .no, .no, .no, .sh (.int leaf), .sh (.int (most:Int)), .sh (.bl b), .sh (.lst (S.map .int)), .no, .no]:=by
  have he:eFn 4 (d_2 45) (aCons (c_8 1 (iOf (eVar 1)) (gC 14) (fun _=> .ok true) ad_1) (aCons (eVar 8) (aCons (eVar 9) (aCons (eLst aNil) aNil)))) [some nsD,some (.lst ks),none,none,none,none,none,none,some (.int leaf),some (.int (most:Int)),none,none,none,none]= .ok (.ow (.lst [.bl b, .lst (S.map .int)])):=by
   simp_arith [evs,ecs,hpt]
  unfold az_0 sUnp
  show(match eFn 4 (d_2 45) (aCons (c_8 1 (iOf (eVar 1)) (gC 14) (fun _=> .ok true) ad_1) (aCons (eVar 8) (aCons (eVar 9) (aCons (eLst aNil) aNil)))) [some nsD,some (.lst ks),none,none,none,none,none,none,some (.int leaf),some (.int (most:Int)),none,none,none,none] with| .ok w=>_| .ex x=>_| .no=>_)=_
  rw [he]
  rfl
 have t4:az_1 [.sh nsD, .sh (.lst ks), .no, .no, .no, .no, .no, .no, .sh (.int leaf), .sh (.int (most:Int)), .sh (.bl b), .sh (.lst (S.map .int)), .no, .no]= .nx [.sh nsD, .sh (.lst ks), .ow (.lst ks), .no, .no, .no, .no, .no, .sh (.int leaf), .sh (.int (most:Int)), .sh (.bl b), .sh (.lst (S.map .int)), .no, .no]:=by
  simp_arith [az_1,evs,s_0]
 have t5:az_2 [.sh nsD, .sh (.lst ks), .ow (.lst ks), .no, .no, .no, .no, .no, .sh (.int leaf), .sh (.int (most:Int)), .sh (.bl b), .sh (.lst (S.map .int)), .no, .no]= .nx [.sh nsD, .sh (.lst ks), .ow (.lst ks), .sh .non, .no, .no, .no, .no, .sh (.int leaf), .sh (.int (most:Int)), .sh (.bl b), .sh (.lst (S.map .int)), .no, .no]:=by
  simp_arith [az_2,evs]
 have t6:az_3 [.sh nsD, .sh (.lst ks), .ow (.lst ks), .sh .non, .no, .no, .no, .no, .sh (.int leaf), .sh (.int (most:Int)), .sh (.bl b), .sh (.lst (S.map .int)), .no, .no]= .nx [.sh nsD, .sh (.lst ks), .ow (.lst ks), .sh .non, .sh .non, .no, .no, .no, .sh (.int leaf), .sh (.int (most:Int)), .sh (.bl b), .sh (.lst (S.map .int)), .no, .no]:=by
  simp_arith [az_3,evs]
 refine⟨.sh (.bl true), ?_,rfl⟩
 unfold cb_0
 refine r_0 ?_
 unfold cn_1
 rw [b_3 t1,b_3 t2,b_3 t3,b_3 t4,b_3 t5,b_3 t6]
 cases b with
 |false=>
  rw [if_neg Bool.false_ne_true] at ar
  have hb:aj_7 [.sh nsD, .sh (.lst ks), .ow (.lst ks), .sh .non, .sh .non, .no, .no, .no, .sh (.int leaf), .sh (.int (most:Int)), .sh (.bl false), .sh (.lst (S.map .int)), .no, .no]= .ex (k_9 S.length) [.sh nsD, .sh (.lst ks), .sh (.lst ks), .sh .non, .sh .non, .no, .no, .no, .sh (.int leaf), .sh (.int (most:Int)), .sh (.bl false), .sh (.lst (S.map .int)), .no, .no]:=by
   simp_arith [aj_7,evs,at_7,ar,exG]
  have hh:bp_3 [.sh nsD, .sh (.lst ks), .sh (.lst ks), .sh .non, .sh .non, .sh (.exn (k_9 S.length).c (k_9 S.length).ns (k_9 S.length).vs), .no, .no, .sh (.int leaf), .sh (.int (most:Int)), .sh (.bl false), .sh (.lst (S.map .int)), .no, .no]= .nx [.sh nsD, .sh (.lst ks), .sh (.lst ks), .sh .non, .sh (.int (S.length:Int)), .sh (.exn (k_9 S.length).c (k_9 S.length).ns (k_9 S.length).vs), .no, .no, .sh (.int leaf), .sh (.int (most:Int)), .sh (.bl false), .sh (.lst (S.map .int)), .no, .no]:=by rfl
  have t7:ad_2 [.sh nsD, .sh (.lst ks), .ow (.lst ks), .sh .non, .sh .non, .no, .no, .no, .sh (.int leaf), .sh (.int (most:Int)), .sh (.bl false), .sh (.lst (S.map .int)), .no, .no]= .nx [.sh nsD, .sh (.lst ks), .sh (.lst ks), .sh .non, .sh (.int (S.length:Int)), .no, .no, .no, .sh (.int leaf), .sh (.int (most:Int)), .sh (.bl false), .sh (.lst (S.map .int)), .no, .no]:=by
   unfold ad_2 bf_6
   simp only [hb,tryH,cd_7,hdGo,List.set_cons_succ,List.set_cons_zero,hh,ca_1]
  have t8:ad_3 [.sh nsD, .sh (.lst ks), .sh (.lst ks), .sh .non, .sh (.int (S.length:Int)), .no, .no, .no, .sh (.int leaf), .sh (.int (most:Int)), .sh (.bl false), .sh (.lst (S.map .int)), .no, .no]= .nx [.sh nsD, .sh (.lst ks), .sh (.lst ks), .sh .non, .sh (.int (S.length:Int)), .no, .no, .no, .sh (.int leaf), .sh (.int (most:Int)), .sh (.bl false), .sh (.lst (S.map .int)), .no, .no]:=by
   have nb:neD (.bl false) (.bl false)= .ok (.sh (.bl false)):=rfl
   simp_arith [ad_3,evs,nk,nb]
  rw [b_3 t7,b_3 t8]
  simp_arith [aj_9,evs,ag_5,e_9,List.length_map,e_8,decide_true]
 |true=>
  rw [if_pos rfl] at ar
  obtain⟨g2,g3,aq⟩:=bl_5 f1 (by omega) (by omega) hp
  have ax:Sal leaf S ks.length:=⟨f1,fun s hs=>by have:=g3 s hs;omega,by omega,by omega,Nat.le_of_eq g2.symm⟩
  have au:=cd_5 ax hk (by omega)
  have hso:=cx_7 aq (by rw [List.length_map];omega)
  rw [cn_2] at hso
  have mkO:∀δ:DE,eVar 2 δ= .ok (.sh (.lst ks))→eVar 8 δ= .ok (.sh (.int leaf))→eVar 9 δ= .ok (.sh (.int (most:Int)))→at_7 "Halved" 3 o_3 (aCons (eVar 2) (aCons (eVar 8) (aCons (eVar 9) aNil))) δ= .ok (.sh (k_2 (ks.length:Int) leaf S)):=fun δ h1 h2 h3=>by
   simp only [at_7,aCons,aNil,h1,h2,h3,R.bind_ok,W.d_sh]
   show(if(3:Nat)=3 then _ else _)=_
   rw [if_pos rfl,ar]
   rfl
  have hlr:∀d,isKey d→n_5 [.int (c_2 d), .lst (S.map .int), .int (ks.length:Int), .int leaf]= .ok (.sh (.int (h_5 leaf S ks.length d))):=fun d _=>bh_2 (x:=c_2 d) ax.f ax.b ax.h1 ax.h2 ax.len
  have hrm:∀d,isKey d→c_3 [k_2 (ks.length:Int) leaf S,d]= .ok (.sh (.int (h_5 leaf S ks.length d))):=fun d hd=>bq_3 ax hd
  have me:=fun(m:Str) (k:Nat) (F:List D→R W) (fo:FE) (fa:FA) (δ:DE) (ds:List D) (hm:(["how_many", "leaf", "salts"]:List Str).contains m=false) (h1:fo δ= .ok (.sh (k_2 (ks.length:Int) leaf S))) (h2:fa δ= .ok ds) (h3:ds.length=k)=>ad_7 m k F fo fa δ ds hm h1 h2 h3
  have hMO:∃oc on ov,k_2 (ks.length:Int) leaf S= .obj oc on ov:=⟨_,_,_,rfl⟩
  generalize k_2 (ks.length:Int) leaf S=M at *
  obtain⟨oc,on,ov,hM⟩:=hMO
  generalize hrl:(ks.map (h_5 leaf S ks.length)).map D.int=rs at *
  generalize hSS:S.map D.int=SD at *
  have t7:ad_2 [.sh nsD, .sh (.lst ks), .ow (.lst ks), .sh .non, .sh .non, .no, .no, .no, .sh (.int leaf), .sh (.int (most:Int)), .sh (.bl true), .sh (.lst SD), .no, .no]= .nx [.sh nsD, .sh (.lst ks), .sh (.lst ks), .sh M, .sh .non, .no, .no, .no, .sh (.int leaf), .sh (.int (most:Int)), .sh (.bl true), .sh (.lst SD), .no, .no]:=by
   have hno:at_7 "Halved" 3 o_3 (aCons (eVar 2) (aCons (eVar 8) (aCons (eVar 9) aNil))) (vsh [.sh nsD, .sh (.lst ks), .ow (.lst ks), .sh .non, .sh .non, .no, .no, .no, .sh (.int leaf), .sh (.int (most:Int)), .sh (.bl true), .sh (.lst SD), .no, .no])= .no:=rfl
   have dv:=mkO (vsh (gsome [2,8,9] [.sh nsD, .sh (.lst ks), .ow (.lst ks), .sh .non, .sh .non, .no, .no, .no, .sh (.int leaf), .sh (.int (most:Int)), .sh (.bl true), .sh (.lst SD), .no, .no])) rfl rfl rfl
   have bq:=mkO (vall [.sh nsD, .sh (.lst ks), .ow (.lst ks), .sh .non, .sh .non, .no, .no, .no, .sh (.int leaf), .sh (.int (most:Int)), .sh (.bl true), .sh (.lst SD), .no, .no]) rfl rfl rfl
   have hnf:flatD M=false:=by rw [hM];rfl
   unfold ad_2 bf_6 aj_7 sSet
   rw [hno]
   simp only [dv,bq,W.d_sh,hnf,Bool.false_eq_true,if_false]
   rfl
  have t8:ad_3 [.sh nsD, .sh (.lst ks), .sh (.lst ks), .sh M, .sh .non, .no, .no, .no, .sh (.int leaf), .sh (.int (most:Int)), .sh (.bl true), .sh (.lst SD), .no, .no]= .nx [.sh nsD, .sh (.lst ks), .sh (.lst ks), .sh M, .sh .non, .no, .no, .no, .sh (.int leaf), .sh (.int (most:Int)), .sh (.bl true), .sh (.lst SD), .no, .no]:=by
   have nb:neD (.bl true) (.bl true)= .ok (.sh (.bl false)):=rfl
   rw [hM]
   simp_arith [ad_3,evs,nk,nb]
  have t9:aj_9 [.sh nsD, .sh (.lst ks), .sh (.lst ks), .sh M, .sh .non, .no, .no, .no, .sh (.int leaf), .sh (.int (most:Int)), .sh (.bl true), .sh (.lst SD), .no, .no]= .nx [.sh nsD, .sh (.lst ks), .sh (.lst ks), .sh M, .sh .non, .no, .no, .no, .sh (.int leaf), .sh (.int (most:Int)), .sh (.bl true), .sh (.lst SD), .no, .no]:=by
   rw [hM]
   simp_arith [aj_9,evs]
  have ec2:=g_3 (m:=1) (fi:=iOf (eVar 1)) (fg:=gC 14) (p:=fun _=> .ok true) (f:=ay_7) (δ:= [some nsD,some (.lst ks),some (.lst ks),some M,some .non,none,none,none,some (.int leaf),some (.int (most:Int)),some (.bl true),some (.lst SD),none,none]) (ds:=ks) (by simp_arith [evs]) (by omega)
   (o_1 (fun d=> .int (h_5 leaf S ks.length d)) ks fun d hd=>⟨[some nsD,some (.lst ks),some (.lst ks),some M,some .non,none,none,none,some (.int leaf),some (.int (most:Int)),some (.bl true),some (.lst SD),none,none,some d], .sh (.int (h_5 leaf S ks.length d)),rfl,by simp_arith [ay_7,evs,u_8 (hk d hd),e_9,hlr d (hk d hd)],rfl⟩)
  have hmm:(ks.map fun d=>D.int (h_5 leaf S ks.length d))=rs:=by rw [←hrl,List.map_map];rfl
  rw [hmm] at ec2
  let Δ:Sl→Sl→Sl→SE:=fun a7 a12 a13=> [.sh nsD, .sh (.lst ks), .sh (.lst ks), .sh M, .sh .non, .no, .ow (.lst rs),a7, .sh (.int leaf), .sh (.int (most:Int)), .sh (.bl true), .sh (.lst SD),a12,a13]
  have t10:an_1 [.sh nsD, .sh (.lst ks), .sh (.lst ks), .sh M, .sh .non, .no, .no, .no, .sh (.int leaf), .sh (.int (most:Int)), .sh (.bl true), .sh (.lst SD), .no, .no]= .nx (Δ .no .no .no):=by
   simp_arith [an_1,evs,ec2,Δ]
  have t11:an_2 (Δ .no .no .no)= .nx (Δ .no .no .no):=by
   have hr:eRng m_7 (aCons (eCall l_6 (aCons (eVar 1) aNil)) aNil) (vall (Δ .no .no .no))= .ok (.ow (.lst (e_5 0 ks.length))):=by
    simp_arith [Δ,evs,eRng,e_9,ac_6 (show(-4611686018427387903:Int)≤(ks.length:Int) by omega) (by omega),Int.toNat_natCast]
    rw [if_pos (by rw [s_8];omega)]
   have hz:neD (.lst (e_5 0 ks.length)) (.lst (e_5 0 ks.length))= .ok (.sh (.bl false)):=by
    rw [←cn_2]
    exact ad_4 1 (ad_9 _)
   have ht:tOrF (eTest (eOp neD (eCall at_9 (aCons (eVar 6) aNil)) (eRng m_7 (aCons (eCall l_6 (aCons (eVar 1) aNil)) aNil)))) (tNotF (eTruth (eFn 4 i_8 (aCons (eVar 3) (aCons (eVar 1) (aCons (eVar 6) (aCons (eVar 11) aNil))))))) (vall (Δ .no .no .no))= .ok false:=by
    unfold tOrF eTest eOp
    rw [hr]
    simp_arith [Δ,evs,hso,hz,au]
   unfold an_2 sIf
   rw [ht]
   rfl
  let K8:List D:=(List.range 8).map fun j:Nat=>keyC (mixZ c1 (0 + (j:Int)))
  have df:(v_9 ks none (some 2)).length≤ks.length:=by
   unfold v_9
   rw [List.length_take,List.length_drop]
   omega
  have hK:∀k∈v_9 ks none (some 2) ++ K8,isKey k:=fun k hm=>by
   rcases List.mem_append.mp hm with z|z
   ·exact hk k (List.mem_of_mem_drop (List.mem_of_mem_take z))
   ·obtain⟨j,_,rfl⟩:=List.mem_map.mp z
    exact(bq_4 _).1
  have hKl:8≤(v_9 ks none (some 2) ++ K8).length:=by rw [List.length_append];simp [K8]
  have cb:c_9 (.lst (v_9 ks none (some 2))) (.lst K8)= .ok (.ow (.lst (v_9 ks none (some 2) ++ K8))):=bo_8 (by simp [K8];omega)
  obtain⟨Δ',e12,a7,a12,a13,rfl⟩:=n_2 (gV 7) aj_8 (fun _ Δ1=>∃a7 a12 a13,Δ1=Δ a7 a12 a13) (ds:=e_5 0 8) (Δ:=Δ .no .no .no) ⟨_,_,_,rfl⟩ (fun k d Δ1 hd8 hI=>by
   obtain⟨a7,a12,a13,rfl⟩:=hI
   have hk8:k < 8∧d= .int (k:Int):=by
    unfold e_5 at hd8
    rw [List.getElem?_map] at hd8
    by_cases z:k < 8
    ·rw [List.getElem?_range z] at hd8
     simp only [Option.map_some,Int.zero_add,Option.some.injEq] at hd8
     exact⟨z,hd8.symm⟩
    ·rw [List.getElem?_eq_none (by simp;omega)] at hd8
     cases hd8
   obtain⟨k8,rfl⟩:=hk8
   obtain⟨x,hx⟩:∃x,(v_9 ks none (some 2) ++ K8)[k]? =some x:=⟨_,List.getElem?_eq_getElem (by omega)⟩
   have hxk:=hK x (List.mem_of_getElem? hx)
   have hix:=aa_4 (au_6 hx)
   have ec3:∀a7 a12 a13:Sl,c_8 1 (iArgs m_7 (aCons (eC (.int 8)) aNil)) (gC 14) (fun _=> .ok true) y_0 [some nsD,some (.lst ks),some (.lst ks),some M,some .non,none,none,a7.pub,some (.int leaf),some (.int (most:Int)),some (.bl true),some (.lst SD),a12.pub,a13.pub]= .ok (.ow (.lst K8)):=fun a7 a12 a13=>by
    refine g_3 (ds:=e_5 0 8) (by simp_arith [evs];rfl) (by decide) ?_
    have:=o_1 (fg:=gC 14) (f:=y_0) (δ:= [some nsD,some (.lst ks),some (.lst ks),some M,some .non,none,none,a7.pub,some (.int leaf),some (.int (most:Int)),some (.bl true),some (.lst SD),a12.pub,a13.pub,none]) (fun d=>match d with| .int j=>keyC (mixZ c1 j)|d=>d) (e_5 0 8) (fun d hd=>by
     obtain⟨j,hj,rfl⟩:=List.mem_map.mp hd
     have hj:=List.mem_range.mp hj
     refine⟨[some nsD,some (.lst ks),some (.lst ks),some M,some .non,none,none,a7.pub,some (.int leaf),some (.int (most:Int)),some (.bl true),some (.lst SD),a12.pub,a13.pub,some (.int (0 + (j:Int)))], .sh (keyC (mixZ c1 (0 + (j:Int)))),rfl, ?_,rfl⟩
     simp_arith [y_0,evs,ec1,ag_0 c1 (0 + (j:Int)) (by omega) (by omega),(bq_4 _).2])
    rw [show(e_5 0 8).map (fun d=>match d with| .int j=>keyC (mixZ c1 j)|d=>d)=K8 by unfold e_5;rw [List.map_map];rfl] at this
    exact this
   have v1:sSet 12 [0,1,7] (eOp ixD (eOp c_9 (eSlice (eVar 1) oNone (oSome (eC (.int 2)))) (c_8 1 (iArgs m_7 (aCons (eC (.int 8)) aNil)) (gC 14) (fun _=> .ok true) y_0)) (eVar 7)) (Δ (.sh (.int (k:Int))) a12 a13)= .nx (Δ (.sh (.int (k:Int))) (.sh x) a13):=by
    have hv:vsh (Δ (.sh (.int (k:Int))) a12 a13)= [some nsD,some (.lst ks),some (.lst ks),some M,some .non,none,none,(Sl.sh (.int (k:Int))).pub,some (.int leaf),some (.int (most:Int)),some (.bl true),some (.lst SD),a12.pub,a13.pub]:=rfl
    have he:eOp ixD (eOp c_9 (eSlice (eVar 1) oNone (oSome (eC (.int 2)))) (c_8 1 (iArgs m_7 (aCons (eC (.int 8)) aNil)) (gC 14) (fun _=> .ok true) y_0)) (eVar 7) (vsh (Δ (.sh (.int (k:Int))) a12 a13))= .ok (.sh x):=by
     rw [hv]
     unfold eOp
     rw [ec3]
     have h1:eSlice (eVar 1) oNone (oSome (eC (.int 2))) [some nsD,some (.lst ks),some (.lst ks),some M,some .non,none,none,(Sl.sh (.int (k:Int))).pub,some (.int leaf),some (.int (most:Int)),some (.bl true),some (.lst SD),a12.pub,a13.pub]= .ok (.ow (.lst (v_9 ks none (some 2)))):=rfl
     have h2:eVar 7 [some nsD,some (.lst ks),some (.lst ks),some M,some .non,none,none,(Sl.sh (.int (k:Int))).pub,some (.int leaf),some (.int (most:Int)),some (.bl true),some (.lst SD),a12.pub,a13.pub]= .ok (.sh (.int (k:Int))):=rfl
     rw [h1,h2]
     simp only [R.bind_ok,W.d_ow,W.d_sh,cb,hix]
    unfold sSet
    rw [he]
    rfl
   have v2:sSet 13 [3,12] (j_6 "room" 1 [("Halved",c_3)] (eVar 3) (aCons (eVar 12) aNil)) (Δ (.sh (.int (k:Int))) (.sh x) a13)= .nx (Δ (.sh (.int (k:Int))) (.sh x) (.sh (.int (h_5 leaf S ks.length x)))):=by
    have hm:=me "room" 1 c_3 (eVar 3) (aCons (eVar 12) aNil) (vsh (Δ (.sh (.int (k:Int))) (.sh x) a13)) [x] cd_4 rfl rfl rfl
    rw [hrm x hxk] at hm
    unfold sSet
    rw [hm]
    rfl
   refine⟨_,rfl,Δ (.sh (.int (k:Int))) (.sh x) (.sh (.int (h_5 leaf S ks.length x))), .inl ?_,_,_,_,rfl⟩
   show aj_8 (Δ (.sh (.int (k:Int))) a12 a13)=_
   unfold aj_8
   rw [b_3 v1,b_3 v2]
   simp_arith [Δ,evs,ag_5,u_8 hxk,e_9,hlr x hxk,cj_2,decide_true])
  have t12:an_3 (Δ .no .no .no)= .nx (Δ a7 a12 a13):=by
   unfold an_3 p_0
   have:iArgs m_7 (aCons (eC (.int 8)) aNil) (vsh (Δ .no .no .no))= .ok (e_5 0 8):=rfl
   rw [this]
   exact e12
  rw [b_3 t7,b_3 t8,b_3 t9,b_3 t10,b_3 t11,b_3 t12]
  have ff:eFn 4 i_8 (aCons (eVar 3) (aCons (eVar 1) (aCons (eVar 6) (aCons (eVar 11) aNil)))) (vall (Δ a7 a12 a13))= .ok (.sh (.bl true)):=by
   simp_arith [Δ,evs,au]
  unfold bg_1 sRet
  rw [ff]
end My
set_option maxHeartbeats 20000000
namespace My
open PySem PyProof.Rows L2 L3
def top(i:Nat):Stmt:=PySem.Challenge.pw_lodge_k66_halves_by_rule.main.body.getD i (.Pass ⟨0,0,0,0⟩)
def y_2:Stmt→List Stmt
 | .ClassDef (body:=b) .. =>b
 |_=> []
def inC(i j:Nat):Stmt:=(y_2 (top i)).getD j (.Pass ⟨0,0,0,0⟩)
section
variable{P:Program}{w:World}{K:Frag}{mg:Str→Option Value}{base:Heap}{f:Addr}{fd:FuncData}
abbrev TF(c:Bool)(x:Str)(k:Nat)(ps:List Str)(F:List D→R W)(P:Program)(w:World)(K:Frag)(mg:Str→Option Value)(base:Heap):Prop:=FnD P w K mg base c x k ps F
abbrev t_5:=TF true "_law_raw" 1 ["_law_script", "_law_k"] h_0
abbrev t_6:=TF true "_law_mix" 1 ["_law_cell_here", "_law_k"] f_9
abbrev aa_7:=TF true "_law_cell" 2 ["_law_script", "_law_k"] g_7
abbrev ai_0:=TF true "_law_great" 2 ["_law_cell_here"] i_4
abbrev ai_1:=TF true "_law_cells" 3 ["_law_script", "_law_start", "_law_most"] l_1
abbrev ag_6:=TF true "_law_key" 1 ["_law_cell_here"] h_9
abbrev ao_0:=TF true "_law_keys" 4 ["_law_script", "_law_start", "_law_most"] n_3
abbrev ai_2:=TF true "_law_shape" 1 ["_law_cell_here"] h_1
abbrev r_6:=TF true "_law_mixed" 1 ["_law_number", "_law_salt", "_law_size"] h_2
abbrev ae_0:=TF true "_law_unlike" 2 ["_law_stamps", "_law_salt"] m_0
abbrev aa_8:=TF true "_law_goes" 2 ["_law_stamps", "_law_salt"] k_8
abbrev ao_1:=TF true "_law_fits" 3 ["_law_stamps", "_law_leaf", "_law_salt"] n_4
abbrev ae_1:=TF true "_law_parted" 48 ["_law_stamps", "_law_leaf", "_law_most", "_law_ahead"] (d_2 45)
abbrev ai_3:=TF true "_law_stamp" 1 ["_law_key_here"] h_3
abbrev x_1:=TF true "_law_whole" 1 ["_law_found"] i_6
abbrev t_7:=TF true "_law_many_parts" 45 ["_law_size", "_law_leaf"] (e_7 45)
abbrev ao_2:=TF true "_law_room" 46 ["_law_number", "_law_salts", "_law_size", "_law_leaf"] n_5
abbrev z_5:=TF true "is_key_text" 1 ["text"] j_9
abbrev ao_3:=TF true "is_key" 2 ["thing"] p_9
abbrev o_8:=TF true "look_each_key" 3 ["keys"] f_4
abbrev bq_5:=TF true "worth" 1 ["text"] ad_0
abbrev ba_0:=TF true "stamp" 3 ["key"] r_1
abbrev t_8:=TF true "is_last" 1 ["size", "leaf"] l_2
abbrev r_7:=TF true "left_size" 1 ["size"] i_7
abbrev ak_7:=TF true "mixed" 1 ["number", "salt", "size"] r_2
abbrev x_2:=TF true "parts_within" 46 ["size", "leaf"] (f_8 45)
abbrev ai_4:=TF true "_law_lists" 50 ["_law_house", "_law_keys_here", "_law_due", "_law_salts"] i_8
abbrev z_6:=TF true "look_unlike" 3 ["keys"] k_1
abbrev ai_5:=TF true "look_keys" 4 ["keys"] l_3
abbrev ag_7:=TF true "on_side" 2 ["stamps", "salt", "side"] n_6
abbrev ai_6:=TF true "salt_fits" 3 ["stamps", "salt", "leaf"] l_4
abbrev ae_2:=TF true "least_salt" 4 ["stamps", "leaf", "most"] m_5
abbrev ai_7:=TF true "salts_for" 5 ["stamps", "leaf", "most"] h_4
abbrev j_3:Stmt:=(y_2 (top 5)).getD 0 (.Pass ⟨0,0,0,0⟩)
theorem aq_6:FnScope ["self", "at"] ["self", "at"] (a_8 j_3):=⟨rfl,rfl,rfl,by decide +kernel,rfl,by decide +kernel,by decide +kernel⟩
theorem aq_7{C f:Addr}{fd:FuncData}(F:Fun K "__init__" "NoFit.__init__" j_3 f fd)(xc:XCls K C)(hn:findIn K (.ref C) "at" =some none):FnX P w K mg base false 1 f fd ["self", "at"] (af_6 C "at"):=
 ay_5 (k:=0) F aq_6 fun zn A outer s H E=>aj_1 (ay_3 xc hn (m_9 rfl (.inl rfl)) (m_9 rfl (.inl rfl)))
abbrev j_4:Stmt:=(y_2 (top 4)).getD 0 (.Pass ⟨0,0,0,0⟩)
theorem aq_8:FnScope ["self", "at"] ["self", "at"] (a_8 j_4):=⟨rfl,rfl,rfl,by decide +kernel,rfl,by decide +kernel,by decide +kernel⟩
theorem aq_9{C f:Addr}{fd:FuncData}(F:Fun K "__init__" "Twice.__init__" j_4 f fd)(xc:XCls K C)(hn:findIn K (.ref C) "at" =some none):FnX P w K mg base false 1 f fd ["self", "at"] (af_6 C "at"):=
 ay_5 (k:=0) F aq_8 fun zn A outer s H E=>aj_1 (ay_3 xc hn (m_9 rfl (.inl rfl)) (m_9 rfl (.inl rfl)))
abbrev j_5:Stmt:=(y_2 (top 3)).getD 0 (.Pass ⟨0,0,0,0⟩)
theorem ar_0:FnScope ["self", "at"] ["self", "at"] (a_8 j_5):=⟨rfl,rfl,rfl,by decide +kernel,rfl,by decide +kernel,by decide +kernel⟩
theorem ar_1{C f:Addr}{fd:FuncData}(F:Fun K "__init__" "NoKey.__init__" j_5 f fd)(xc:XCls K C)(hn:findIn K (.ref C) "at" =some none):FnX P w K mg base false 1 f fd ["self", "at"] (af_6 C "at"):=
 ay_5 (k:=0) F ar_0 fun zn A outer s H E=>aj_1 (ay_3 xc hn (m_9 rfl (.inl rfl)) (m_9 rfl (.inl rfl)))
theorem bl_6(F:Fun K "_law_raw" "_law_raw" (top 33) f fd)(b8:mg "len" =none):FnX P w K mg base true 1 f fd ["_law_script", "_law_k"] (spX K 2 h_0):=
 e_2 (N:= ["_law_script", "_law_k"]) F fun zp zq hu nd zr=>(a_3 (f_5 [0,1] (d_0 bx_5 (a_0 1) (b_7 b_9 rfl b8 PySem.boot_len (a_1 (a_0 0) a_2)) (c_0 _))
   (a_7 (b_4 [0,1] (ab_6 (a_0 0) (a_0 1))))
   d_3)
  (a_7 (b_4 [] a_4)))
theorem bl_7(F:Fun K "_law_mix" "_law_mix" (top 32) f fd):FnX P w K mg base true 1 f fd ["_law_cell_here", "_law_k"] (spX K 2 f_9):=
 e_2 (N:= ["_law_cell_here", "_law_k", "_law_first"]) F fun zp zq hu nd zr=>(a_3 (b_1 (i:=2) [0,1] (a_5 e_1 (a_5 e_0 (a_5 a_9 (a_0 0) a_4) (a_5 a_9 a_4 (a_5 e_0 a_4 (a_0 1)))) a_4) nd)
  (a_7 (b_4 [1,2] (a_5 e_1 (a_5 a_9 (a_5 a_9 (a_5 e_0 (a_5 k_3 (a_0 2) a_4) a_4) (a_5 e_0 (a_0 2) (a_5 a_9 (a_5 e_0 (a_0 1) (a_0 1)) a_4))) (a_0 1)) a_4))))
theorem bh_6(F:Fun K "_law_cell" "_law_cell" (top 34) f fd)(c9:t_6 P w K mg base)(h8:t_5 P w K mg base):FnX P w K mg base true 2 f fd ["_law_script", "_law_k"] (spX K 2 g_7):=
 e_2 (N:= ["_law_script", "_law_k"]) F fun zp zq hu nd zr=>(a_7 (b_4 [0,1] (a_6 zq zr c9 (a_1 (a_5 e_1 (a_6 zq zr h8 (a_1 (a_0 0) (a_1 (a_0 1) a_2))) a_4) (a_1 (a_5 a_9 (a_0 1) a_4) a_2)))))
theorem ba_1(F:Fun K "_law_great" "_law_great" (top 36) f fd)(c9:t_6 P w K mg base):FnX P w K mg base true 2 f fd ["_law_cell_here"] (spX K 1 i_4):=
 e_2 (N:= ["_law_cell_here"]) F fun zp zq hu nd zr=>(a_7 (b_4 [0] (a_5 a_9 (a_5 e_0 (a_5 a_9 (a_5 e_0 (a_6 zq zr c9 (a_1 (a_0 0) (a_1 a_4 a_2))) a_4) (a_6 zq zr c9 (a_1 (a_0 0) (a_1 a_4 a_2)))) a_4) (a_6 zq zr c9 (a_1 (a_0 0) (a_1 a_4 a_2))))))
theorem ba_2(F:Fun K "_law_cells" "_law_cells" (top 37) f fd)(h8:t_5 P w K mg base)(j7:aa_7 P w K mg base)(r6:ai_0 P w K mg base)(c9:t_6 P w K mg base)(z8:mg "max" =none)(b8:mg "len" =none)(j1:mg "range" =none)(aa4:mg "min" =none):FnX P w K mg base true 3 f fd ["_law_script", "_law_start", "_law_most"] (spX K 3 l_1):=
 e_2 (N:= ["_law_script", "_law_start", "_law_most", "_law_cells_here", "_law_many"]) F fun zp zq hu nd zr=>(a_3 (b_1 (i:=3) [0,1] (b_7 (x_6 zp) rfl z8 PyProof.Rows.boot_max (a_1 a_4 (a_1 (a_5 q_6 (b_7 b_9 rfl b8 PySem.boot_len (a_1 (a_0 0) a_2)) (a_0 1)) a_2))) nd)
  (a_3 (f_5 [0] (d_0 (h_6 hu) (a_5 e_1 (a_6 zq zr h8 (a_1 (a_0 0) (a_1 a_4 a_2))) a_4) a_4 (c_0 _))
   (a_7 (b_4 [0,1,2,3] (j_0 (N':= ["_law_script", "_law_start", "_law_most", "_law_cells_here", "_law_many", "_law_k"]) zp (p_3 j1 (a_1 (b_7 (af_0 (ca_5 zp)) rfl aa4 PyProof.Rows.boot_min (a_1 (a_0 2) (a_1 (a_0 3) a_2))) a_2)) rfl (by kernel_rfl) rfl (fun C s0 H0 fp pn=>⟨(gcM (i:=5)),s_1,(a_6 (d_5 zq) g_2 h8 (a_1 (a_0 0) (a_1 (a_5 a_9 (a_0 1) (a_0 5)) a_2)))⟩))))
   d_3)
  (a_3 (b_1 (i:=4) [0,2,3] (b_7 (af_0 zp) rfl aa4 PyProof.Rows.boot_min (a_1 (a_0 2) (a_1 (b_7 (x_6 zp) rfl z8 PyProof.Rows.boot_max (a_1 (a_0 3) (a_1 (a_5 a_9 a_4 (a_5 e_1 (a_6 zq zr j7 (a_1 (a_0 0) (a_1 a_4 a_2))) (a_0 2))) a_2))) a_2))) nd)
  (a_7 (b_4 [0,1,3,4] (j_0 (N':= ["_law_script", "_law_start", "_law_most", "_law_cells_here", "_law_many", "_law_k"]) zp (p_3 j1 (a_1 (a_0 4) a_2)) rfl (by kernel_rfl) rfl (fun C s0 H0 fp pn=>⟨(gcM (i:=5)),s_1,(a_6 (d_5 zq) g_2 r6 (a_1 (a_6 (d_5 zq) g_2 c9 (a_1 (a_6 (d_5 zq) g_2 j7 (a_1 (a_0 0) (a_1 (a_5 a_9 (a_0 1) (a_5 e_1 (a_0 5) (b_7 (x_6 (bs_6 zp)) rfl z8 PyProof.Rows.boot_max (a_1 a_4 (a_1 (a_0 3) a_2))))) a_2))) (a_1 (a_0 5) a_2))) a_2))⟩)))))))
theorem bl_8(F:Fun K "_law_key" "_law_key" (top 35) f fd)(j1:mg "range" =none)(o9:mg "int" =none):FnX P w K mg base true 1 f fd ["_law_cell_here"] (spX K 1 h_9):=
 e_2 (N:= ["_law_cell_here", "_law_signs", "_law_rest", "_law_found", "_law_size", "_law_k"]) F fun zp zq hu nd zr=>(a_3 (b_1 (i:=1) [] bj_0 nd)
  (a_3 (b_1 (i:=2) [0] (a_5 k_3 (a_0 0) a_4) nd)
  (a_3 (f_5 [0] (d_0 (h_6 hu) (a_5 e_1 (a_0 0) a_4) a_4 (c_0 _))
   (a_7 (b_4 [2] (a_5 e_1 (a_0 2) (a_5 cg_8 a_4 a_4))))
   d_3)
  (a_3 (f_5 [0] (d_0 (h_6 hu) (a_5 e_1 (a_0 0) a_4) a_4 (c_0 _))
   (a_7 (b_4 [2] (a_5 e_1 (a_0 2) a_4)))
   d_3)
  (a_3 (b_1 (i:=3) [] bj_0 nd)
  (a_3 (b_1 (i:=4) [2] (a_5 e_1 (a_0 2) a_4) nd)
  (a_3 (v_8 [4] f_3 zp (p_3 j1 (a_1 (a_0 4) a_2)) (x_7 (i:=5) nd)
   (a_3 (b_1 (i:=2) [2,5] (a_5 k_3 (a_0 2) (ab_6 (k_5 (a_1 a_4 (a_1 a_4 a_2))) (x_5 bj_3 rfl o9 PyProof.Rows.boot_int (a_1 (n_0 aw_1 (a_0 5) a_4 (c_0 _)) a_2)))) nd)
  (a_7 (b_1 (i:=3) [1,2,3] (a_5 a_9 (a_0 3) (ab_6 (a_0 1) (a_5 e_1 (a_0 2) a_4))) nd))))
  (a_7 (ac_0 3)))))))))
theorem bh_7(F:Fun K "_law_keys" "_law_keys" (top 38) f fd)(p0:ai_1 P w K mg base)(k9:ag_6 P w K mg base)(h8:t_5 P w K mg base):FnX P w K mg base true 4 f fd ["_law_script", "_law_start", "_law_most"] (spX K 3 n_3):=
 e_2 (N:= ["_law_script", "_law_start", "_law_most", "_law_found", "_law_cell_here", "_law_key_here"]) F fun zp zq hu nd zr=>(a_3 (b_1 (i:=3) [] (k_5 a_2) nd)
  (a_3 (v_8 [0,1,2] f_3 zp (q_8 (a_6 zq zr p0 (a_1 (a_0 0) (a_1 (a_0 1) (a_1 (a_0 2) a_2))))) (x_7 (i:=4) nd)
   (a_3 (b_1 (i:=5) [4] (a_6 zq zr k9 (a_1 (a_0 4) a_2)) nd)
  (a_7 (f_5 [3,5] (d_0 as_8 (a_0 5) (a_0 3) (by with_unfolding_all rfl))
   (a_7 (al_8 (i:=3) (a_0 5)))
   d_3))))
  (a_3 (f_5 [3] (d_0 (h_6 hu) (a_0 3) (k_5 a_2) (c_0 _))
   (a_7 (b_1 (i:=3) [0] (k_5 (a_1 (a_6 zq zr k9 (a_1 (a_5 k_3 (a_6 zq zr h8 (a_1 (a_0 0) (a_1 a_4 a_2))) a_4) a_2)) a_2)) nd))
   d_3)
  (a_7 (ac_0 3)))))
theorem ba_3(F:Fun K "_law_shape" "_law_shape" (top 42) f fd):FnX P w K mg base true 1 f fd ["_law_cell_here"] (spX K 1 h_1):=
 e_2 (N:= ["_law_cell_here"]) F fun zp zq hu nd zr=>(a_7 (b_4 [0] (cr_2 (a_1 (a_5 a_9 a_4 (a_5 e_1 (a_0 0) a_4)) (a_1 (ab_6 (k_5 (a_1 (a_5 a_9 a_4 (a_5 e_1 (a_5 k_3 (a_0 0) a_4) a_4)) (a_1 a_4 (a_1 a_4 (a_1 a_4 a_2))))) (a_5 e_1 (a_5 k_3 (a_0 0) a_4) a_4)) a_2)))))
theorem ba_4(F:Fun K "_law_mixed" "_law_mixed" (top 40) f fd):FnX P w K mg base true 1 f fd ["_law_number", "_law_salt", "_law_size"] (spX K 3 h_2):=
 e_2 (N:= ["_law_number", "_law_salt", "_law_size", "_law_prime", "_law_a", "_law_b", "_law_first"]) F fun zp zq hu nd zr=>(a_3 (b_1 (i:=3) [] a_4 nd)
  (a_3 (b_1 (i:=4) [1,3] (a_5 a_9 a_4 (a_5 e_1 (a_5 a_9 (a_5 e_0 a_4 (a_0 1)) a_4) (a_5 q_6 (a_0 3) a_4))) nd)
  (a_3 (b_1 (i:=5) [1,3] (a_5 e_1 (a_5 a_9 (a_5 e_0 (a_5 e_0 a_4 (a_0 1)) (a_0 1)) (a_5 e_0 a_4 (a_0 1))) (a_0 3)) nd)
  (a_3 (b_1 (i:=6) [0,3,4,5] (a_5 e_1 (a_5 a_9 (a_5 e_0 (a_0 4) (a_0 0)) (a_0 5)) (a_0 3)) nd)
  (a_7 (b_4 [2,6] (a_5 e_1 (a_5 a_9 (a_0 6) (a_5 k_3 (a_0 6) a_4)) (a_0 2))))))))
theorem ar_2(F:Fun K "_law_unlike" "_law_unlike" (top 43) f fd)(g8:r_6 P w K mg base)(b8:mg "len" =none)(ac0:mg "set" =none):FnX P w K mg base true 2 f fd ["_law_stamps", "_law_salt"] (spX K 2 m_0):=
 e_2 (N:= ["_law_stamps", "_law_salt"]) F fun zp zq hu nd zr=>(a_7 (b_4 [0,1] (n_0 (h_6 hu) (at_5 zp b8 ac0 (j_0 (N':= ["_law_stamps", "_law_salt", "_law_one"]) zp (q_8 (a_0 0)) rfl (by kernel_rfl) rfl (fun C s0 H0 fp pn=>⟨(gcM (i:=2)),s_1,(a_6 (d_5 zq) g_2 g8 (a_1 (a_0 2) (a_1 (a_0 1) (a_1 (b_7 b_9 rfl b8 PySem.boot_len (a_1 (a_0 0) a_2)) a_2))))⟩))) (b_7 b_9 rfl b8 PySem.boot_len (a_1 (a_0 0) a_2)) (c_0 _))))
theorem bh_8(F:Fun K "_law_goes" "_law_goes" (top 44) f fd)(g8:r_6 P w K mg base):FnX P w K mg base true 2 f fd ["_law_stamps", "_law_salt"] (spX K 2 k_8):=
 e_2 (N:= ["_law_stamps", "_law_salt"]) F fun zp zq hu nd zr=>(a_7 (b_4 [0,1] (j_0 (N':= ["_law_stamps", "_law_salt", "_law_one"]) zp (q_8 (a_0 0)) rfl (by kernel_rfl) rfl (fun C s0 H0 fp pn=>⟨(gcM (i:=2)),(aw_3 (d_0 (h_6 hu) (a_6 (d_5 zq) g_2 g8 (a_1 (a_0 2) (a_1 (a_0 1) (a_1 a_4 a_2)))) a_4 (c_0 _))),(a_0 2)⟩))))
theorem bh_9(F:Fun K "_law_fits" "_law_fits" (top 45) f fd)(n5:ae_0 P w K mg base)(j8:aa_8 P w K mg base)(b8:mg "len" =none):FnX P w K mg base true 3 f fd ["_law_stamps", "_law_leaf", "_law_salt"] (spX K 3 n_4):=
 e_2 (N:= ["_law_stamps", "_law_leaf", "_law_salt"]) F fun zp zq hu nd zr=>(a_3 (f_5 [0,1] (d_0 aa_1 (b_7 b_9 rfl b8 PySem.boot_len (a_1 (a_0 0) a_2)) (a_0 1) (c_0 _))
   (a_7 (b_4 [0,2] (a_6 zq zr n5 (a_1 (a_0 0) (a_1 (a_0 2) a_2)))))
   d_3)
  (a_7 (b_4 [0,2] (n_0 (h_6 hu) (b_7 b_9 rfl b8 PySem.boot_len (a_1 (a_6 zq zr j8 (a_1 (a_0 0) (a_1 (a_0 2) a_2))) a_2)) (a_5 k_3 (a_5 a_9 (b_7 b_9 rfl b8 PySem.boot_len (a_1 (a_0 0) a_2)) a_4) a_4) (c_0 _)))))
theorem z_7(F:Fun K "_law_parted" "_law_parted" (top 46) f fd)(hm:mg "_law_parted" =some (.ref f))(hb:Binds K fd ["_law_stamps", "_law_leaf", "_law_most", "_law_ahead"] [])(n6:ao_1 P w K mg base)(j8:aa_8 P w K mg base)(b8:mg "len" =none):∀n:Nat,FnX P w K mg base true (n + 3) f fd ["_law_stamps", "_law_leaf", "_law_most", "_law_ahead"] (spX K 4 (d_2 n))
 |0=>FnX.never rfl
 |n + 1=>e_2 (N:= ["_law_stamps", "_law_leaf", "_law_most", "_law_ahead", "_law_salt", "_law_found", "_law_left", "_law_good"]) F fun zp zq hu nd zr=>have c_S:FnD P w K mg base true "_law_parted" (n + 3) ["_law_stamps", "_law_leaf", "_law_most", "_law_ahead"] (d_2 n):=c_4 F hm hb (z_7 F hm hb n6 j8 b8 n)
  (a_3 (b_1 (i:=4) [] a_4 nd)
  (a_3 (ac_1 [0,1,2,4] 3000 f_3 (td_w (cq_9 (d_0 bx_5 (a_0 4) (a_0 2) (c_0 _)) (cg_2 (r_9 (f_0 (a_6 zq zr n6 (a_1 (a_0 0) (a_1 (a_0 1) (a_1 (a_0 4) a_2))) (by omega)))))))
   (a_7 (b_1 (i:=4) [4] (a_5 a_9 (a_0 4) a_4) nd)))
  (a_3 (f_5 [2,4] (d_0 (h_6 hu) (a_0 4) (a_0 2) (c_0 _))
   (a_7 (b_4 [3] (k_5 (a_1 y_8 (a_1 (a_0 3) a_2)))))
   d_3)
  (a_3 (b_1 (i:=5) [3,4] (a_5 a_9 (a_0 3) (k_5 (a_1 (a_0 4) a_2))) nd)
  (a_3 (f_5 [0,1] (d_0 aa_1 (b_7 b_9 rfl b8 PySem.boot_len (a_1 (a_0 0) a_2)) (a_0 1) (c_0 _))
   (a_7 (b_4 [5] (k_5 (a_1 y_8 (a_1 (a_0 5) a_2)))))
   d_3)
  (a_3 (b_1 (i:=6) [0,4] (a_6 zq zr j8 (a_1 (a_0 0) (a_1 (a_0 4) a_2)) (by omega)) nd)
  (a_3 (bj_9 [1,2,5,6] (a_6 zq zr c_S (a_1 (a_0 6) (a_1 (a_0 1) (a_1 (a_0 2) (a_1 (a_0 5) a_2)))) (Nat.le_refl _)) (aw_5 (i:=7) (j:=5) zp nd))
  (a_3 (f_5 [7] (r_9 (f_0 (a_0 7)))
   (a_7 (b_4 [5] (k_5 (a_1 y_8 (a_1 (a_0 5) a_2)))))
   d_3)
  (a_7 (b_4 [0,1,2,5,6] (a_6 zq zr c_S (a_1 (j_0 (N':= ["_law_stamps", "_law_leaf", "_law_most", "_law_ahead", "_law_salt", "_law_found", "_law_left", "_law_good", "_law_one"]) zp (q_8 (a_0 0)) rfl (by kernel_rfl) rfl (fun C s0 H0 fp pn=>⟨(gcM (i:=8)),(aw_3 (d_0 as_8 (a_0 8) (a_0 6) (by with_unfolding_all rfl))),(a_0 8)⟩)) (a_1 (a_0 1) (a_1 (a_0 2) (a_1 (a_0 5) a_2)))) (Nat.le_refl _))))))))))))
theorem ba_5(F:Fun K "_law_stamp" "_law_stamp" (top 39) f fd)(b4:mg "isinstance" =none)(o9:mg "int" =none)(l6:KitT K "int"):FnX P w K mg base true 1 f fd ["_law_key_here"] (spX K 1 h_3):=
 e_2 (N:= ["_law_key_here", "_law_worth", "_law_sign"]) F fun zp zq hu nd zr=>(a_3 (f_5 [0] (f_0 (w_0 l6 (a_0 0) b4 o9 PyProof.Rows.boot_int))
   (a_7 (b_4 [0] (a_5 e_0 a_4 (a_0 0))))
   d_3)
  (a_3 (b_1 (i:=1) [] a_4 nd)
  (a_3 (v_8 [0] f_3 zp (q_8 (a_0 0)) (x_7 (i:=2) nd)
   (a_7 (b_1 (i:=1) [1,2] (a_5 a_9 (a_5 a_9 (a_5 e_0 (a_0 1) a_4) (bo_0 PySem.F.plainAttrs_str PySem.F.slot_str_index PySem.F.type_str_index bs_9 bj_0 (a_1 (a_0 2) a_2))) a_4) nd)))
  (a_7 (b_4 [1] (a_5 a_9 (a_5 e_0 a_4 (a_0 1)) a_4))))))
theorem ba_6(F:Fun K "_law_whole" "_law_whole" (top 41) f fd)(b4:mg "isinstance" =none)(o9:mg "int" =none)(y3:mg "bool" =none)(l6:KitT K "int")(m9:KitT K "bool"):FnX P w K mg base true 1 f fd ["_law_found"] (spX K 1 i_6):=
 e_2 (N:= ["_law_found"]) F fun zp zq hu nd zr=>(a_7 (b_4 [0] (ae_9 (w_0 l6 (a_0 0) b4 o9 PyProof.Rows.boot_int) (al_7 (cr_0 (w_0 m9 (a_0 0) b4 y3 at_2))))))
theorem r_8(F:Fun K "_law_many_parts" "_law_many_parts" (top 47) f fd)(hm:mg "_law_many_parts" =some (.ref f))(hb:Binds K fd ["_law_size", "_law_leaf"] []):∀n:Nat,FnX P w K mg base true (n + 0) f fd ["_law_size", "_law_leaf"] (spX K 2 (e_7 n))
 |0=>FnX.never rfl
 |n + 1=>e_2 (N:= ["_law_size", "_law_leaf", "_law_left"]) F fun zp zq hu nd zr=>have c_S:FnD P w K mg base true "_law_many_parts" (n + 0) ["_law_size", "_law_leaf"] (e_7 n):=c_4 F hm hb (r_8 F hm hb n)
  (a_3 (f_5 [0,1] (d_0 aa_1 (a_0 0) (a_0 1) (c_0 _))
   (a_7 (b_4 [] a_4))
   d_3)
  (a_3 (b_1 (i:=2) [0] (a_5 k_3 (a_5 a_9 (a_0 0) a_4) a_4) nd)
  (a_7 (b_4 [0,1,2] (a_5 a_9 (a_5 a_9 a_4 (a_6 zq zr c_S (a_1 (a_0 2) (a_1 (a_0 1) a_2)) (Nat.le_refl _))) (a_6 zq zr c_S (a_1 (a_5 q_6 (a_0 0) (a_0 2)) (a_1 (a_0 1) a_2)) (Nat.le_refl _)))))))
theorem bi_0(F:Fun K "_law_room" "_law_room" (top 48) f fd)(g8:r_6 P w K mg base)(k6:t_7 P w K mg base):FnX P w K mg base true 46 f fd ["_law_number", "_law_salts", "_law_size", "_law_leaf"] (spX K 4 n_5):=
 e_2 (N:= ["_law_number", "_law_salts", "_law_size", "_law_leaf", "_law_room_here", "_law_at", "_law_left"]) F fun zp zq hu nd zr=>(a_3 (b_1 (i:=4) [] a_4 nd)
  (a_3 (b_1 (i:=5) [] a_4 nd)
  (a_3 (ac_1 [2,3] 3000 f_3 (d_0 aw_1 (a_0 2) (a_0 3) (c_0 _))
   (a_3 (b_1 (i:=6) [2] (a_5 k_3 (a_5 a_9 (a_0 2) a_4) a_4) nd)
  (a_7 (f_5 [0,1,5] (d_0 (h_6 hu) (a_6 zq zr g8 (a_1 (a_0 0) (a_1 (ab_6 (a_0 1) (a_0 5)) (a_1 a_4 a_2)))) a_4 (c_0 _))
   (a_3 (b_1 (i:=5) [5] (a_5 a_9 (a_0 5) a_4) nd)
  (a_7 (b_1 (i:=2) [6] (a_0 6) nd)))
   (a_3 (b_1 (i:=5) [3,5,6] (a_5 a_9 (a_5 a_9 (a_0 5) a_4) (a_6 zq zr k6 (a_1 (a_0 6) (a_1 (a_0 3) a_2)))) nd)
  (a_3 (b_1 (i:=4) [4,6] (a_5 a_9 (a_0 4) (a_0 6)) nd)
  (a_7 (b_1 (i:=2) [2,6] (a_5 q_6 (a_0 2) (a_0 6)) nd))))))))
  (a_7 (b_4 [0,1,2,4,5] (a_5 a_9 (a_0 4) (a_6 zq zr g8 (a_1 (a_0 0) (a_1 (ab_6 (a_0 1) (a_0 5)) (a_1 (a_0 2) a_2))))))))))
theorem ao_4(F:Fun K "is_key_text" "is_key_text" (top 12) f fd)(b8:mg "len" =none)(bb8:mg "all" =none){ad5:Tok}(o5:mg "MOST_SIGNS" =some (.int 11 ad5)){ac9:Tok}(u0:mg "SIGNS" =some (.str "abcdefghijklmnopqrstuvwxyz0123456789-_ " ac9)):FnX P w K mg base true 1 f fd ["text"] (spX K 1 j_9):=
 e_2 (N:= ["text"]) F fun zp zq hu nd zr=>(a_7 (b_4 [0] (ae_9 (n_0 aa_1 (b_7 b_9 rfl b8 PySem.boot_len (a_1 (a_0 0) a_2)) (x_4 rfl o5) (c_0 _)) (al_7 (b_7 (bs_8 zp) rfl bb8 PyProof.Rows.boot_all (a_1 (j_0 (N':= ["text", "sign"]) zp (q_8 (a_0 0)) rfl (by kernel_rfl) rfl (fun C s0 H0 fp pn=>⟨(gcM (i:=1)),s_1,(n_0 cr_5 (a_0 1) (bn_3 rfl u0) (by with_unfolding_all rfl))⟩)) a_2))))))
theorem bu_8(F:Fun K "is_key" "is_key" (top 13) f fd)(m7:z_5 P w K mg base)(b4:mg "isinstance" =none)(y3:mg "bool" =none)(o9:mg "int" =none)(ab6:mg "str" =none)(m9:KitT K "bool")(l6:KitT K "int")(r9:KitT K "str"){x5:Tok}(k4:mg "GREATEST_NUMBER" =some (.int 999999999999999999 x5)):FnX P w K mg base true 2 f fd ["thing"] (spX K 1 p_9):=
 e_2 (N:= ["thing"]) F fun zp zq hu nd zr=>(a_3 (f_5 [0] (f_0 (w_0 m9 (a_0 0) b4 y3 at_2))
   (a_7 (b_4 [] y_8))
   d_3)
  (a_3 (f_5 [0] (f_0 (w_0 l6 (a_0 0) b4 o9 PyProof.Rows.boot_int))
   (a_7 (b_4 [0] (bx_1 aa_1 aa_1 a_4 (a_0 0) (x_4 rfl k4))))
   d_3)
  (a_7 (b_4 [0] (ae_9 (w_0 r9 (a_0 0) b4 ab6 PyProof.Rows.boot_str) (al_7 (a_6 zq zr m7 (a_1 (a_0 0) a_2))))))))
theorem ag_8(F:Fun K "look_each_key" "look_each_key" (top 17) f fd)(m8:ao_3 P w K mg base)(j9:mg "enumerate" =none){c8:Addr}(u6:XC P w K mg base "NoKey" "at" c8):FnX P w K mg base true 3 f fd ["keys"] (spX K 1 f_4):=
 e_2 (N:= ["keys", "place", "key"]) F fun zp zq hu nd zr=>(a_7 (v_8 [0] f_3 zp (bo_3 j9 (a_0 0)) (by_1 (i:=1) (j:=2) zp nd)
   (a_7 (f_5 [2] (r_9 (f_0 (a_6 zq zr m8 (a_1 (a_0 2) a_2))))
   (a_7 (ac_8 [1] u6 (RoomC.mono zq (by decide)) ac_7 (a_0 1)))
   d_3))))
theorem cd_9(F:Fun K "worth" "worth" (top 14) f fd){ac9:Tok}(u0:mg "SIGNS" =some (.str "abcdefghijklmnopqrstuvwxyz0123456789-_ " ac9)):FnX P w K mg base true 1 f fd ["text"] (spX K 1 ad_0):=
 e_2 (N:= ["text", "total", "sign"]) F fun zp zq hu nd zr=>(a_3 (b_1 (i:=1) [] a_4 nd)
  (a_3 (v_8 [0] f_3 zp (q_8 (a_0 0)) (x_7 (i:=2) nd)
   (a_7 (b_1 (i:=1) [1,2] (a_5 a_9 (a_5 a_9 (a_5 e_0 a_4 (a_0 1)) (bo_0 PySem.F.plainAttrs_str PySem.F.slot_str_find PySem.F.type_str_find by_4 (bn_3 rfl u0) (a_1 (a_0 2) a_2))) a_4) nd)))
  (a_7 (ac_0 1))))
theorem ce_0(F:Fun K "stamp" "stamp" (top 15) f fd)(m8:ao_3 P w K mg base)(ad4:bq_5 P w K mg base)(b4:mg "isinstance" =none)(ab6:mg "str" =none)(r9:KitT K "str"){c8:Addr}(u6:XC P w K mg base "NoKey" "at" c8):FnX P w K mg base true 3 f fd ["key"] (spX K 1 r_1):=
 e_2 (N:= ["key"]) F fun zp zq hu nd zr=>(a_3 (f_5 [0] (r_9 (f_0 (a_6 zq zr m8 (a_1 (a_0 0) a_2))))
   (a_7 (ac_8 [] u6 (RoomC.mono zq (by decide)) ac_7 a_4))
   d_3)
  (a_3 (f_5 [0] (f_0 (w_0 r9 (a_0 0) b4 ab6 PyProof.Rows.boot_str))
   (a_7 (b_4 [0] (a_5 a_9 (a_5 e_0 a_4 (a_6 zq zr ad4 (a_1 (a_0 0) a_2))) a_4)))
   d_3)
  (a_7 (b_4 [0] (a_5 e_0 a_4 (a_0 0))))))
theorem bl_9(F:Fun K "is_last" "is_last" (top 24) f fd)(z8:mg "max" =none):FnX P w K mg base true 1 f fd ["size", "leaf"] (spX K 2 l_2):=
 e_2 (N:= ["size", "leaf"]) F fun zp zq hu nd zr=>(a_7 (b_4 [0,1] (n_0 aa_1 (a_0 0) (b_7 (x_6 zp) rfl z8 PyProof.Rows.boot_max (a_1 (a_0 1) (a_1 a_4 a_2))) (c_0 _))))
theorem ba_7(F:Fun K "left_size" "left_size" (top 23) f fd):FnX P w K mg base true 1 f fd ["size"] (spX K 1 i_7):=
 e_2 (N:= ["size"]) F fun zp zq hu nd zr=>(a_7 (b_4 [0] (a_5 k_3 (a_5 a_9 (a_0 0) a_4) a_4)))
theorem ce_1(F:Fun K "mixed" "mixed" (top 16) f fd){bd5:Tok}(x6:mg "PRIME" =some (.int 2305843009213693951 bd5)):FnX P w K mg base true 1 f fd ["number", "salt", "size"] (spX K 3 r_2):=
 e_2 (N:= ["number", "salt", "size", "factor", "shift", "first"]) F fun zp zq hu nd zr=>(a_3 (f_5 [2] (d_0 (h_6 hu) (a_0 2) a_4 (c_0 _))
   (a_7 (b_4 [] a_4))
   d_3)
  (a_3 (b_1 (i:=3) [1] (a_5 a_9 a_4 (a_5 e_1 (a_5 a_9 (a_5 e_0 a_4 (a_0 1)) a_4) (a_5 q_6 (x_4 rfl x6) a_4))) nd)
  (a_3 (b_1 (i:=4) [1] (a_5 e_1 (a_5 a_9 (a_5 e_0 (a_5 e_0 a_4 (a_0 1)) (a_0 1)) (a_5 e_0 a_4 (a_0 1))) (x_4 rfl x6)) nd)
  (a_3 (b_1 (i:=5) [0,3,4] (a_5 e_1 (a_5 a_9 (a_5 e_0 (a_0 3) (a_0 0)) (a_0 4)) (x_4 rfl x6)) nd)
  (a_7 (b_4 [2,5] (a_5 e_1 (a_5 a_9 (a_0 5) (a_5 k_3 (a_0 5) a_4)) (a_0 2))))))))
theorem v_1(F:Fun K "parts_within" "parts_within" (top 29) f fd)(hm:mg "parts_within" =some (.ref f))(hb:Binds K fd ["size", "leaf"] [])(h9:t_8 P w K mg base)(g9:r_7 P w K mg base):∀n:Nat,FnX P w K mg base true (n + 1) f fd ["size", "leaf"] (spX K 2 (f_8 n))
 |0=>FnX.never rfl
 |n + 1=>e_2 (N:= ["size", "leaf", "left"]) F fun zp zq hu nd zr=>have c_S:FnD P w K mg base true "parts_within" (n + 1) ["size", "leaf"] (f_8 n):=c_4 F hm hb (v_1 F hm hb h9 g9 n)
  (a_3 (f_5 [0,1] (f_0 (a_6 zq zr h9 (a_1 (a_0 0) (a_1 (a_0 1) a_2)) (by omega)))
   (a_7 (b_4 [] a_4))
   d_3)
  (a_3 (b_1 (i:=2) [0] (a_6 zq zr g9 (a_1 (a_0 0) a_2) (by omega)) nd)
  (a_7 (b_4 [0,1,2] (a_5 a_9 (a_5 a_9 a_4 (a_6 zq zr c_S (a_1 (a_0 2) (a_1 (a_0 1) a_2)) (Nat.le_refl _))) (a_6 zq zr c_S (a_1 (a_5 q_6 (a_0 0) (a_0 2)) (a_1 (a_0 1) a_2)) (Nat.le_refl _)))))))
theorem y_5(F:Fun K "number_of" "Halved.number_of" (inC 30 2) f fd)(u7:ba_0 P w K mg base)(h9:t_8 P w K mg base)(g9:r_7 P w K mg base)(l2:ak_7 P w K mg base)(l7:x_2 P w K mg base)(c7:OFld K ["Halved"] "how_many")(o7:OFld K ["Halved"] "leaf")(j6:OFld K ["Halved"] "salts"):FnX P w K mg base true 47 f fd ["self", "key"] (spX K 2 d_4):=
 e_2 (N:= ["self", "key", "number", "size", "turn", "passed", "left"]) F fun zp zq hu nd zr=>(a_3 (b_1 (i:=2) [1] (a_6 zq zr u7 (a_1 (a_0 1) a_2)) nd)
  (a_3 (b_1 (i:=3) [0] (w_1 c7 (a_0 0)) nd)
  (a_3 (b_1 (i:=4) [] a_4 nd)
  (a_3 (b_1 (i:=5) [] a_4 nd)
  (a_3 (ac_1 [0,3] 3000 f_3 (r_9 (f_0 (a_6 zq zr h9 (a_1 (a_0 3) (a_1 (w_1 o7 (a_0 0)) a_2)))))
   (a_3 (b_1 (i:=6) [3] (a_6 zq zr g9 (a_1 (a_0 3) a_2)) nd)
  (a_7 (f_5 [0,2,4] (d_0 (h_6 hu) (a_6 zq zr l2 (a_1 (a_0 2) (a_1 (ab_6 (w_1 j6 (a_0 0)) (a_0 4)) (a_1 a_4 a_2)))) a_4 (c_0 _))
   (a_3 (b_1 (i:=4) [4] (a_5 a_9 (a_0 4) a_4) nd)
  (a_7 (b_1 (i:=3) [6] (a_0 6) nd)))
   (a_3 (b_1 (i:=4) [0,4,6] (a_5 a_9 (a_5 a_9 (a_0 4) a_4) (a_6 zq zr l7 (a_1 (a_0 6) (a_1 (w_1 o7 (a_0 0)) a_2)))) nd)
  (a_3 (b_1 (i:=5) [5,6] (a_5 a_9 (a_0 5) (a_0 6)) nd)
  (a_7 (b_1 (i:=3) [3,6] (a_5 q_6 (a_0 3) (a_0 6)) nd))))))))
  (a_7 (b_4 [0,2,3,4,5] (a_5 a_9 (a_0 5) (a_6 zq zr l2 (a_1 (a_0 2) (a_1 (ab_6 (w_1 j6 (a_0 0)) (a_0 4)) (a_1 (a_0 3) a_2))))))))))))
theorem ao_5(F:Fun K "room" "House.room" (inC 21 2) f fd)(j5:MethT P w K mg base true 47 1 "number_of" [("Halved",d_4)])(c7:OFld K ["Halved"] "how_many")(aa4:mg "min" =none):FnX P w K mg base true 48 f fd ["self", "key"] (spX K 2 c_3):=
 e_2 (N:= ["self", "key"]) F fun zp zq hu nd zr=>(a_7 (b_4 [0,1] (b_7 (af_0 zp) rfl aa4 PyProof.Rows.boot_min (a_1 (u_1 j5 zq zr (a_0 0) (a_1 (a_0 1) a_2)) (a_1 (a_5 q_6 (w_1 c7 (a_0 0)) a_4) a_2)))))
theorem aj_0(F:Fun K "rooms" "House.rooms" (inC 21 3) f fd)(i8:o_8 P w K mg base)(j0:MethT P w K mg base true 48 1 "room" [("Halved",c_3)]):FnX P w K mg base true 49 f fd ["self", "keys"] (spX K 2 b_2):=
 e_2 (N:= ["self", "keys"]) F fun zp zq hu nd zr=>(a_3 (aw_2 [1] (a_6 zq zr i8 (a_1 (a_0 1) a_2)))
  (a_7 (b_4 [0,1] (j_0 (N':= ["self", "keys", "key"]) zp (q_8 (a_0 1)) rfl (by kernel_rfl) rfl (fun C s0 H0 fp pn=>⟨(gcM (i:=2)),s_1,(u_1 j0 (d_5 zq) g_2 (a_0 0) (a_1 (a_0 2) a_2))⟩)))))
theorem ae_3(F:Fun K "numbers" "Halved.numbers" (inC 30 1) f fd)(j6:OFld K ["Halved"] "salts")(l0:mg "list" =none):FnX P w K mg base true 1 f fd ["self"] (spX K 1 c_1):=
 e_2 (N:= ["self"]) F fun zp zq hu nd zr=>(a_7 (b_4 [0] (x_5 v_6 rfl l0 PyProof.Rows.boot_list (a_1 (w_1 j6 (a_0 0)) a_2))))
theorem ao_6(F:Fun K "many" "House.many" (inC 21 1) f fd)(c7:OFld K ["Halved"] "how_many"):FnX P w K mg base true 1 f fd ["self"] (spX K 1 f_6):=
 e_2 (N:= ["self"]) F fun zp zq hu nd zr=>(a_7 (b_4 [0] (w_1 c7 (a_0 0))))
theorem ba_8(F:Fun K "_law_lists" "_law_lists" (top 49) f fd)(j3:x_1 P w K mg base)(i7:MethT P w K mg base true 49 1 "rooms" [("Halved",b_2)])(j2:MethT P w K mg base true 1 0 "numbers" [("Halved",c_1)])(l8:MethT P w K mg base true 1 0 "many" [("Halved",f_6)])(l0:mg "list" =none)(o6:mg "reversed" =none)(b4:mg "isinstance" =none)(b8:mg "len" =none)(aa6:KitT K "list"):FnX P w K mg base true 50 f fd ["_law_house", "_law_keys_here", "_law_due", "_law_salts"] (spX K 4 i_8):=
 e_2 (N:= ["_law_house", "_law_keys_here", "_law_due", "_law_salts", "_law_found"]) F fun zp zq hu nd zr=>(a_3 (f_5 [0,1,2] (td_w (al_6 (d_0 (v_5 hu) (u_1 i7 zq zr (a_0 0) (a_1 (x_5 v_6 rfl l0 PyProof.Rows.boot_list (a_1 (a_0 1) a_2)) a_2)) (a_0 2) (c_0 _)) (ae_8 (d_0 (v_5 hu) (u_1 i7 zq zr (a_0 0) (a_1 (am_6 zp l0 o6 (a_0 1)) a_2)) (am_6 zp l0 o6 (a_0 2)) (c_0 _)))))
   (a_7 (b_4 [] y_8))
   d_3)
  (a_3 (b_1 (i:=4) [0] (am_3 j2 zq zr (a_0 0)) nd)
  (a_3 (f_5 [3,4] (td_w (al_6 (r_9 (f_0 (w_0 aa6 (a_0 4) b4 l0 PyProof.Rows.boot_list))) (al_6 (d_0 (v_5 hu) (a_0 4) (a_0 3) (c_0 _)) (ae_8 (d_0 (v_5 hu) (j_0 (N':= ["_law_house", "_law_keys_here", "_law_due", "_law_salts", "_law_found", "_law_one"]) zp (q_8 (a_0 4)) rfl (by kernel_rfl) rfl (fun C s0 H0 fp pn=>⟨(gcM (i:=5)),(aw_3 (r_9 (f_0 (a_6 (d_5 zq) g_2 j3 (a_1 (a_0 5) a_2))))),(a_0 5)⟩)) (k_5 a_2) (c_0 _))))))
   (a_7 (b_4 [] y_8))
   d_3)
  (a_3 (al_8 (i:=4) a_4)
  (a_3 (ck_3 (u_1 i7 zq zr (a_0 0) (a_1 (bd_1 (a_0 1) bn_8 (bn_9 a_4)) a_2)) a_4)
  (a_7 (b_4 [0,1,3] (ae_9 (n_0 (h_6 hu) (am_3 j2 zq zr (a_0 0)) (a_0 3) (c_0 _)) (ae_9 (n_0 (h_6 hu) (u_1 i7 zq zr (a_0 0) (a_1 (k_5 a_2) a_2)) (k_5 a_2) (c_0 _)) (al_7 (n_0 (h_6 hu) (am_3 l8 zq zr (a_0 0)) (b_7 b_9 rfl b8 PySem.boot_len (a_1 (a_0 1) a_2)) (c_0 _))))))))))))
theorem ao_7(F:Fun K "look_unlike" "look_unlike" (top 18) f fd)(j9:mg "enumerate" =none){g7:Addr}(ad1:XC P w K mg base "Twice" "at" g7):FnX P w K mg base true 3 f fd ["keys"] (spX K 1 k_1):=
 e_2 (N:= ["keys", "seen", "place", "key"]) F fun zp zq hu nd zr=>(a_3 (b_1 (i:=1) [] ci_3 nd)
  (a_7 (v_8 [0] f_3 zp (bo_3 j9 (a_0 0)) (by_1 (i:=2) (j:=3) zp nd)
   (a_3 (f_5 [1,3] (d_0 (cs_2 hu) (a_0 3) (a_0 1) (by with_unfolding_all rfl))
   (a_7 (ac_8 [2] ad1 (RoomC.mono zq (by decide)) ac_7 (a_0 2)))
   d_3)
  (a_7 (ci_4 (i:=1) [] hu y_8 (a_0 3)))))))
theorem ba_9(F:Fun K "look_keys" "look_keys" (top 19) f fd)(i8:o_8 P w K mg base)(m6:z_6 P w K mg base)(b8:mg "len" =none){d0:Addr}(y9:XC0 K mg "NoKeys" d0){ae3:Tok}(p9:mg "MOST_KEYS" =some (.int 200 ae3)):FnX P w K mg base true 4 f fd ["keys"] (spX K 1 l_3):=
 e_2 (N:= ["keys"]) F fun zp zq hu nd zr=>(a_3 (f_5 [0] (td_w (al_6 (d_0 (h_6 hu) (b_7 b_9 rfl b8 PySem.boot_len (a_1 (a_0 0) a_2)) a_4 (c_0 _)) (ae_8 (d_0 aw_1 (b_7 b_9 rfl b8 PySem.boot_len (a_1 (a_0 0) a_2)) (x_4 rfl p9) (c_0 _)))))
   (a_7 (bt_9 y9 (RoomC.mono zq (by decide)) ac_7))
   d_3)
  (a_3 (aw_2 [0] (a_6 zq zr i8 (a_1 (a_0 0) a_2)))
  (a_3 (aw_2 [0] (a_6 zq zr m6 (a_1 (a_0 0) a_2)))
  (a_7 (b_4 [0] (b_7 b_9 rfl b8 PySem.boot_len (a_1 (a_0 0) a_2)))))))
theorem bm_0(F:Fun K "on_side" "on_side" (top 25) f fd)(l2:ak_7 P w K mg base):FnX P w K mg base true 2 f fd ["stamps", "salt", "side"] (spX K 3 n_6):=
 e_2 (N:= ["stamps", "salt", "side"]) F fun zp zq hu nd zr=>(a_7 (b_4 [0,1,2] (j_0 (N':= ["stamps", "salt", "side", "number"]) zp (q_8 (a_0 0)) rfl (by kernel_rfl) rfl (fun C s0 H0 fp pn=>⟨(gcM (i:=3)),(aw_3 (d_0 (h_6 hu) (a_6 (d_5 zq) g_2 l2 (a_1 (a_0 3) (a_1 (a_0 1) (a_1 a_4 a_2)))) (a_0 2) (c_0 _))),(a_0 3)⟩))))
theorem bb_0(F:Fun K "salt_fits" "salt_fits" (top 26) f fd)(h9:t_8 P w K mg base)(l2:ak_7 P w K mg base)(k7:ag_7 P w K mg base)(g9:r_7 P w K mg base)(b8:mg "len" =none)(ac0:mg "set" =none):FnX P w K mg base true 3 f fd ["stamps", "salt", "leaf"] (spX K 3 l_4):=
 e_2 (N:= ["stamps", "salt", "leaf", "size"]) F fun zp zq hu nd zr=>(a_3 (b_1 (i:=3) [0] (b_7 b_9 rfl b8 PySem.boot_len (a_1 (a_0 0) a_2)) nd)
  (a_3 (f_5 [2,3] (f_0 (a_6 zq zr h9 (a_1 (a_0 3) (a_1 (a_0 2) a_2))))
   (a_7 (b_4 [0,1,3] (n_0 (h_6 hu) (at_5 zp b8 ac0 (j_0 (N':= ["stamps", "salt", "leaf", "size", "number"]) zp (q_8 (a_0 0)) rfl (by kernel_rfl) rfl (fun C s0 H0 fp pn=>⟨(gcM (i:=4)),s_1,(a_6 (d_5 zq) g_2 l2 (a_1 (a_0 4) (a_1 (a_0 1) (a_1 (a_0 3) a_2))))⟩))) (a_0 3) (c_0 _))))
   d_3)
  (a_7 (b_4 [0,1,3] (n_0 (h_6 hu) (b_7 b_9 rfl b8 PySem.boot_len (a_1 (a_6 zq zr k7 (a_1 (a_0 0) (a_1 (a_0 1) (a_1 a_4 a_2)))) a_2)) (a_6 zq zr g9 (a_1 (a_0 3) a_2)) (c_0 _))))))
theorem ar_3(F:Fun K "least_salt" "least_salt" (top 27) f fd)(p6:ai_6 P w K mg base)(j1:mg "range" =none):FnX P w K mg base true 4 f fd ["stamps", "leaf", "most"] (spX K 3 m_5):=
 e_2 (N:= ["stamps", "leaf", "most", "salt"]) F fun zp zq hu nd zr=>(a_3 (v_8 [2] f_3 zp (p_3 j1 (a_1 (a_0 2) a_2)) (x_7 (i:=3) nd)
   (a_7 (f_5 [0,1,3] (f_0 (a_6 zq zr p6 (a_1 (a_0 0) (a_1 (a_0 3) (a_1 (a_0 1) a_2)))))
   (a_7 (ac_0 3))
   d_3)))
  (a_7 (b_4 [] ae_7)))
theorem bb_1(F:Fun K "salts_for" "salts_for" (top 28) f fd)(n9:ae_2 P w K mg base)(h9:t_8 P w K mg base)(k7:ag_7 P w K mg base)(b8:mg "len" =none){b9:Addr}(ad6:XC P w K mg base "NoFit" "at" b9):FnX P w K mg base true 5 f fd ["stamps", "leaf", "most"] (spX K 3 h_4):=
 e_2 (N:= ["stamps", "leaf", "most", "salts", "waiting", "part", "salt"]) F fun zp zq hu nd zr=>(a_3 (b_1 (i:=3) [] (k_5 a_2) nd)
  (a_3 (b_1 (i:=4) [0] (k_5 (a_1 (a_0 0) a_2)) nd)
  (a_3 (ac_1 [4] 3000 f_3 (d_0 aw_1 (b_7 b_9 rfl b8 PySem.boot_len (a_1 (a_0 4) a_2)) a_4 (c_0 _))
   (a_3 (ci_5 (i:=5) (j:=4) nd)
  (a_3 (b_1 (i:=6) [1,2,5] (a_6 zq zr n9 (a_1 (a_0 5) (a_1 (a_0 1) (a_1 (a_0 2) a_2)))) nd)
  (a_3 (f_5 [6] (d_0 bo_4 (a_0 6) ae_7 (c_0 _))
   (a_7 (ac_8 [3] ad6 (RoomC.mono zq (by decide)) ac_7 (b_7 b_9 rfl b8 PySem.boot_len (a_1 (a_0 3) a_2))))
   d_3)
  (a_3 (al_8 (i:=3) (a_0 6))
  (a_7 (f_5 [1,5] (r_9 (f_0 (a_6 zq zr h9 (a_1 (b_7 b_9 rfl b8 PySem.boot_len (a_1 (a_0 5) a_2)) (a_1 (a_0 1) a_2)))))
   (a_3 (al_8 (i:=4) (a_6 zq zr k7 (a_1 (a_0 5) (a_1 (a_0 6) (a_1 a_4 a_2)))))
  (a_7 (al_8 (i:=4) (a_6 zq zr k7 (a_1 (a_0 5) (a_1 (a_0 6) (a_1 a_4 a_2)))))))
   d_3)))))))
  (a_7 (ac_0 3)))))
theorem s_5(F:Fun K "__init__" "House.__init__" (inC 21 0) f fd){CI:Addr}(hCI:ClsAt K "Halved" CI)(c7:OFld K ["Halved"] "how_many"):FnX P w K mg base true 1 f fd ["self", "how_many"] (spI K CI 1 c_5):=
 cn_0 (n:=1) (cn:= "Halved") (N:= ["self", "how_many"]) F hCI (by decide) (by decide) fun zp zq hu nd zr=>(a_7 (aw_9 (i:=0) [1] c7 (a_0 1)))
theorem aa_9(F:Fun K "__init__" "Halved.__init__" (inC 30 0) f fd){CI:Addr}(hCI:ClsAt K "Halved" CI)(q9:ai_5 P w K mg base)(q5:ai_7 P w K mg base)(u7:ba_0 P w K mg base)(i9:MakB P w K mg base true "House" "Halved" 1 1 c_5)(o7:OFld K ["Halved"] "leaf")(j6:OFld K ["Halved"] "salts"):FnX P w K mg base true 6 f fd ["self", "keys", "leaf", "most"] (spI K CI 3 o_3):=
 cn_0 (n:=3) (cn:= "Halved") (N:= ["self", "keys", "leaf", "most"]) F hCI (by decide) (by decide) fun zp zq hu nd zr=>(a_3 (ca_7 (i:=0) [1] zq zr i9 (a_6 zq zr q9 (a_1 (a_0 1) a_2)))
  (a_3 (aw_9 (i:=0) [2] o7 (a_0 2))
  (a_7 (aw_9 (i:=0) [1,2,3] j6 (a_6 zq zr q5 (a_1 (j_0 (N':= ["self", "keys", "leaf", "most", "key"]) zp (q_8 (a_0 1)) rfl (by kernel_rfl) rfl (fun C s0 H0 fp pn=>⟨(gcM (i:=4)),s_1,(a_6 (d_5 zq) g_2 u7 (a_1 (a_0 4) a_2))⟩)) (a_1 (a_0 2) (a_1 (a_0 3) a_2))))))))
theorem ct_8(F:Fun K "law" "law" (top 50) f fd)(v5:ao_0 P w K mg base)(p7:ai_2 P w K mg base)(h8:t_5 P w K mg base)(o8:ae_1 P w K mg base)(l4:ai_3 P w K mg base)(j3:x_1 P w K mg base)(n8:ao_2 P w K mg base)(l9:ai_4 P w K mg base)(k9:ag_6 P w K mg base)(c9:t_6 P w K mg base)(j7:aa_7 P w K mg base)(z7:MakD P w K mg base true "Halved" 6 3 o_3)(j0:MethT P w K mg base true 48 1 "room" [("Halved",c_3)])(l0:mg "list" =none)(b8:mg "len" =none)(ab3:mg "sorted" =none)(j1:mg "range" =none){b9:Addr}(x9:mg "NoFit" =some (.ref b9))(p5:Catches K b9 [("NoFit",true),("NoKey",false),("NoKeys",false),("Twice",false)])(aw1:XGets K ["NoFit", "NoKey", "Twice"] "at"):FnX P w K mg base true 51 f fd ["_law_script"] (spX K 1 cb_0):=
 e_2 (N:= ["_law_script", "_law_keys_here", "_law_handed", "_law_house", "_law_bad", "error", "_law_rooms", "_law_k", "_law_leaf", "_law_most", "_law_good", "_law_salts", "_law_key_here", "_law_found"]) F fun zp zq hu nd zr=>(a_3 (b_1 (i:=1) [0] (a_6 zq zr v5 (a_1 (a_0 0) (a_1 a_4 (a_1 a_4 a_2)))) nd)
  (a_3 (bj_9 [0] (a_6 zq zr p7 (a_1 (a_6 zq zr h8 (a_1 (a_0 0) (a_1 a_4 a_2))) a_2)) (aw_5 (i:=8) (j:=9) zp nd))
  (a_3 (bj_9 [1,8,9] (a_6 zq zr o8 (a_1 (j_0 (N':= ["_law_script", "_law_keys_here", "_law_handed", "_law_house", "_law_bad", "error", "_law_rooms", "_law_k", "_law_leaf", "_law_most", "_law_good", "_law_salts", "?12", "_law_found", "_law_key_here"]) zp (q_8 (a_0 1)) rfl (by kernel_rfl) rfl (fun C s0 H0 fp pn=>⟨(gcM (i:=14)),s_1,(a_6 (d_5 zq) g_2 l4 (a_1 (a_0 14) a_2))⟩)) (a_1 (a_0 8) (a_1 (a_0 9) (a_1 (k_5 a_2) a_2))))) (aw_5 (i:=10) (j:=11) zp nd))
  (a_3 (b_1 (i:=2) [1] (x_5 v_6 rfl l0 PyProof.Rows.boot_list (a_1 (a_0 1) a_2)) nd)
  (a_3 (b_1 (i:=3) [] ae_7 nd)
  (a_3 (b_1 (i:=4) [] ae_7 nd)
  (a_3 (ck_1 nd rfl rfl (fun zd W EXB lkB=>(a_7 (b_1 (i:=3) [2,8,9] (ci_7 (ca_4 zq) lkB z7 (a_1 (a_0 2) (a_1 (a_0 8) (a_1 (a_0 9) a_2)))) nd))) (HOk3.as_ (i:=5) x9 p5 (fun e=>(a_7 (b_1 (i:=4) [5] (cj_8 aw1 (a_0 5)) nd))) .nil))
  (a_3 (f_5 [1,2,3,10] (td_w (al_6 (d_0 (v_5 hu) (a_0 2) (a_0 1) (c_0 _)) (ae_8 (d_0 (v_5 hu) (n_0 bz_0 (a_0 3) ae_7 (c_0 _)) (a_0 10) (c_0 _)))))
   (a_7 (b_4 [] y_8))
   d_3)
  (a_3 (f_5 [3] (d_0 bo_4 (a_0 3) ae_7 (c_0 _))
   (a_7 (b_4 [4,11] (ae_9 (a_6 zq zr j3 (a_1 (a_0 4) a_2)) (al_7 (n_0 (h_6 hu) (a_0 4) (b_7 b_9 rfl b8 PySem.boot_len (a_1 (a_0 11) a_2)) (c_0 _))))))
   d_3)
  (a_3 (ch_6 (i:=6) [1,8,11] (N':= ["_law_script", "_law_keys_here", "_law_handed", "_law_house", "_law_bad", "error", "_law_rooms", "_law_k", "_law_leaf", "_law_most", "_law_good", "_law_salts", "?12", "_law_found", "_law_key_here"]) zp (q_8 (a_0 1)) rfl (by kernel_rfl) rfl (fun C s0 H0 fp pn=>⟨(gcM (i:=14)),s_1,(a_6 (d_5 zq) g_2 n8 (a_1 (a_6 (d_5 zq) g_2 l4 (a_1 (a_0 14) a_2)) (a_1 (a_0 11) (a_1 (b_7 b_9 rfl b8 PySem.boot_len (a_1 (a_0 1) a_2)) (a_1 (a_0 8) a_2)))))⟩) nd)
  (a_3 (f_5 [1,3,6,11] (td_w (al_6 (d_0 (v_5 hu) (b_7 (bl_0 zp) rfl ab3 PyProof.Rows.boot_sorted (a_1 (a_0 6) a_2)) (ap_5 zp l0 j1 (a_1 (b_7 b_9 rfl b8 PySem.boot_len (a_1 (a_0 1) a_2)) a_2)) (c_0 _)) (ae_8 (r_9 (f_0 (a_6 zq zr l9 (a_1 (a_0 3) (a_1 (a_0 1) (a_1 (a_0 6) (a_1 (a_0 11) a_2))))))))))
   (a_7 (b_4 [] y_8))
   d_3)
  (a_3 (v_8 [] f_3 zp (p_3 j1 (a_1 a_4 a_2)) (x_7 (i:=7) nd)
   (a_3 (b_1 (i:=12) [0,1,7] (ab_6 (a_5 a_9 (bd_1 (a_0 1) bn_8 (bn_9 a_4)) (j_0 (N':= ["_law_script", "_law_keys_here", "_law_handed", "_law_house", "_law_bad", "error", "_law_rooms", "_law_k", "_law_leaf", "_law_most", "_law_good", "_law_salts", "_law_key_here", "_law_found", "_law_j"]) zp (p_3 j1 (a_1 a_4 a_2)) rfl (by kernel_rfl) rfl (fun C s0 H0 fp pn=>⟨(gcM (i:=14)),s_1,(a_6 (d_5 zq) g_2 k9 (a_1 (a_6 (d_5 zq) g_2 c9 (a_1 (a_6 (d_5 zq) g_2 j7 (a_1 (a_0 0) (a_1 a_4 a_2))) (a_1 (a_0 14) a_2))) a_2))⟩))) (a_0 7)) nd)
  (a_3 (b_1 (i:=13) [3,12] (u_1 j0 zq zr (a_0 3) (a_1 (a_0 12) a_2)) nd)
  (a_7 (f_5 [1,8,11,12,13] (td_w (al_6 (r_9 (f_0 (a_6 zq zr j3 (a_1 (a_0 13) a_2)))) (ae_8 (d_0 (v_5 hu) (a_0 13) (a_6 zq zr n8 (a_1 (a_6 zq zr l4 (a_1 (a_0 12) a_2)) (a_1 (a_0 11) (a_1 (b_7 b_9 rfl b8 PySem.boot_len (a_1 (a_0 1) a_2)) (a_1 (a_0 8) a_2))))) (c_0 _)))))
   (a_7 (b_4 [] y_8))
   d_3)))))
  (a_7 (b_4 [1,3,6,11] (a_6 zq zr l9 (a_1 (a_0 3) (a_1 (a_0 1) (a_1 (a_0 6) (a_1 (a_0 11) a_2)))))))))))))))))))
abbrev ao_8:Stmt:=top 50
end
theorem ct_9{l:PySem.W.OpenLaw}{w:World}{K:Frag}{h:Heap}{mg:Str→Option Value}{fa:Addr}(X:K.In h)(G:h.Ns mainGlobals mg)(hfa:mg "law" =some (.ref fa))
  {ad2:Addr}
  {b7:Addr}
  {f41:Addr} {bg1 bf5:Option Addr} {bg0:Array (Option Value)} {bf9 bf8 be5 be4 bd7 be7:Value}
  {ab5:Tok}
  {ba3:Tok}
  {v7:Tok}
  {ax5:Tok}
  {ac7:Tok}
  {c8:Addr}
  {g7:Addr}
  {b9:Addr}
  {d0:Addr}
  {q8 aj2 ai7:Addr} {av0 az1:Str} {bb4 am0:List Value} {av6:List Str} {bb0:Bool} {an2:Option Bool} {av5 bb6 am1 ao5 ar7 ba2:Option Addr} {ba4 at2 az8 av1 au3:Option Value} {ay5 bd2 at0 as3 as5 au2 ad9 aw8:Value} {aa9 y4:Array DictEntry} {as7 ak4:Nat} {az2 an8 ao3 ap7:Array (Option Value)} {ac1:ClassData}
  {p4 aj0 ai8:Addr} {aw0 bc5:Str} {bd1 ak9:List Value} {aw3:List Str} {ax7:Bool} {ap2:Option Bool} {az6 bb1 an1 ao1 aj7 ba9:Option Addr} {ax1 az5 av3 ba8 bb9:Option Value} {bc4 ay2 bc3 aw7 bd0 bb3 ag4 at9:Value} {ab1 y7:Array DictEntry} {as9 ap4:Nat} {az9 an3 ao6 ap9:Array (Option Value)} {ac6:ClassData}
  {p8 ai9 aj1:Addr} {bc9 bc6:Str} {at4 aq6:List Value} {au0:List Str} {ay9:Bool} {ak0:Option Bool} {aw6 az0 aj4 ar5 ap8 av7:Option Addr} {az4 au9 at6 av4 bb5:Option Value} {au8 ay8 au5 aw4 bb2 at5 ae9 p5:Value} {aa2 y6:Array DictEntry} {av8 aj9:Nat} {aw5 aj5 ar4 ar8:Array (Option Value)} {ac5:ClassData}
  {ag0 ag6:Addr} {an4 as2:Str} {aq4 ah2:List Value} {am9:List Str} {al5:Bool} {ah0:Option Bool} {aq7 ao7 ah3 ai5:Option Addr} {al6 ar1 al1 aq9 al4:Option Value} {ao8 ak3 aj8:Value} {y8 v9:Array DictEntry} {aq5 ai1:Nat} {aq2 ai2 ai3:Array (Option Value)} {ab4:ClassData}
  (ay3:nsIn K mainGlobals "House" =some (some (.ref ad2)))
  (i6:nsIn K mainGlobals "Halved" =some (some (.ref b7)))
  (al7:plainGet K b7 Str.empty=true)
  (as0:hasDictIn K b7=true)
  (ar9:plainOver K b7=true)
  (ap5:findIn K (.ref b7) "__setattr__" =some (some (.builtin "object.__setattr__")))
  (ak6:makesIn K b7=true)
  (ap0:keepIn K (.ref b7)=true)
  (v6:findIn K (.ref b7) "how_many" =some none)
  (aa3:findIn K (.ref b7) "leaf" =some none)
  (z9:findIn K (.ref b7) "salts" =some none)
  (w1:FnTop K "_law_raw" (top 33))
  (w2:FnTop K "_law_mix" (top 32))
  (w3:FnTop K "_law_cell" (top 34))
  (w4:FnTop K "_law_great" (top 36))
  (w5:FnTop K "_law_cells" (top 37))
  (w6:FnTop K "_law_key" (top 35))
  (w7:FnTop K "_law_keys" (top 38))
  (w8:FnTop K "_law_shape" (top 42))
  (w9:FnTop K "_law_mixed" (top 40))
  (w10:FnTop K "_law_unlike" (top 43))
  (w11:FnTop K "_law_goes" (top 44))
  (w12:FnTop K "_law_fits" (top 45))
  (w13:FnTop K "_law_parted" (top 46))
  (w14:FnTop K "_law_stamp" (top 39))
  (w15:FnTop K "_law_whole" (top 41))
  (w16:FnTop K "_law_many_parts" (top 47))
  (w17:FnTop K "_law_room" (top 48))
  (w18:FnTop K "is_key_text" (top 12))
  (w19:FnTop K "is_key" (top 13))
  (w20:FnTop K "look_each_key" (top 17))
  (w21:FnTop K "worth" (top 14))
  (w22:FnTop K "stamp" (top 15))
  (w23:FnTop K "is_last" (top 24))
  (w24:FnTop K "left_size" (top 23))
  (w25:FnTop K "mixed" (top 16))
  (w26:FnTop K "parts_within" (top 29))
  (w27:FnMet K b7 "number_of" "Halved.number_of" (inC 30 2))
  (w28:FnMet K b7 "room" "House.room" (inC 21 2))
  (w29:FnMet K b7 "rooms" "House.rooms" (inC 21 3))
  (w30:FnMet K b7 "numbers" "Halved.numbers" (inC 30 1))
  (w31:FnMet K b7 "many" "House.many" (inC 21 1))
  (w32:FnTop K "_law_lists" (top 49))
  (w33:FnTop K "look_unlike" (top 18))
  (w34:FnTop K "look_keys" (top 19))
  (w35:FnTop K "on_side" (top 25))
  (w36:FnTop K "salt_fits" (top 26))
  (w37:FnTop K "least_salt" (top 27))
  (w38:FnTop K "salts_for" (top 28))
  (w39:FnBase K ad2 "House.__init__" (inC 21 0))
  (w40:FnMet K b7 "__init__" "Halved.__init__" (inC 30 0))
  (a41:nsIn K mainGlobals "law" =some (some (.ref f41))) (l41:K.lookup f41=some ⟨bf9,bg1, .func (fnOf "law" "law" (g_1 ao_8) (d_7 ao_8) (a_8 ao_8) .none bf8 be5 be4 bf5 bd7 be7),bg0⟩) (c41:codeIn K bd7 "law" =true) (k41:keepIn K (.ref f41)=true)
  (bf1:nsIn K mainGlobals "len" =some none)
  (bf4:nsIn K mainGlobals "max" =some none)
  (bd6:nsIn K mainGlobals "range" =some none)
  (bf7:nsIn K mainGlobals "min" =some none)
  (be9:nsIn K mainGlobals "int" =some none)
  (be6:nsIn K mainGlobals "set" =some none)
  (ad0:nsIn K mainGlobals "isinstance" =some none)
  (bd8:nsIn K mainGlobals "bool" =some none)
  (bf2:nsIn K mainGlobals "all" =some none)
  (bf0:nsIn K mainGlobals "str" =some none)
  (af2:nsIn K mainGlobals "enumerate" =some none)
  (bd9:nsIn K mainGlobals "list" =some none)
  (ah1:nsIn K mainGlobals "reversed" =some none)
  (aw9:nsIn K mainGlobals "sorted" =some none)
  (al3:kitOne K (.type "NoneType") (.type "int")=some false)
  (at7:kitOne K (.type "bool") (.type "int")=some true)
  (aj6:kitOne K (.type "int") (.type "int")=some true)
  (al9:kitOne K (.type "str") (.type "int")=some false)
  (ak7:kitOne K (.type "list") (.type "int")=some false)
  (an5:kitOne K (.type "tuple") (.type "int")=some false)
  (ah6:kitOne K (.type "NoneType") (.type "bool")=some false)
  (aq3:kitOne K (.type "bool") (.type "bool")=some true)
  (ah9:kitOne K (.type "int") (.type "bool")=some false)
  (ai6:kitOne K (.type "str") (.type "bool")=some false)
  (ah5:kitOne K (.type "list") (.type "bool")=some false)
  (ai4:kitOne K (.type "tuple") (.type "bool")=some false)
  (al2:kitOne K (.type "NoneType") (.type "str")=some false)
  (au4:kitOne K (.type "bool") (.type "str")=some false)
  (ap6:kitOne K (.type "int") (.type "str")=some false)
  (an0:kitOne K (.type "str") (.type "str")=some true)
  (ak1:kitOne K (.type "list") (.type "str")=some false)
  (ar0:kitOne K (.type "tuple") (.type "str")=some false)
  (ag9:kitOne K (.type "NoneType") (.type "list")=some false)
  (ao9:kitOne K (.type "bool") (.type "list")=some false)
  (ag7:kitOne K (.type "int") (.type "list")=some false)
  (ai0:kitOne K (.type "str") (.type "list")=some false)
  (ag8:kitOne K (.type "list") (.type "list")=some true)
  (ah4:kitOne K (.type "tuple") (.type "list")=some false)
  (ad3:nsIn K mainGlobals "MOST_SIGNS" =some (some (.int 11 ab5)))
  (bd3:nsIn K mainGlobals "SIGNS" =some (some (.str "abcdefghijklmnopqrstuvwxyz0123456789-_ " ba3)))
  (x4:nsIn K mainGlobals "GREATEST_NUMBER" =some (some (.int 999999999999999999 v7)))
  (bd4:nsIn K mainGlobals "PRIME" =some (some (.int 2305843009213693951 ax5)))
  (af1:nsIn K mainGlobals "MOST_KEYS" =some (some (.int 200 ac7)))
  (y2:nsIn K mainGlobals "NoKey" =some (some (.ref c8)))
  (y1:nsIn K mainGlobals "Twice" =some (some (.ref g7)))
  (x8:nsIn K mainGlobals "NoFit" =some (some (.ref b9)))
  (z6:nsIn K mainGlobals "NoKeys" =some (some (.ref d0)))
  (af5:K.lookup c8=some (excClassObj av0 az1 c8 aj2 bb4 (.ref ai7::bmVE) true av6 am0 bb0 an2 av5 ba4 at2 az8 av1 au3 "ValueError.__new__"))
  (ba1:K.lookup aj2=some ⟨ay5,bb6, .dict aa9 as7,az2⟩)
  (bf3:findIn K (.ref c8) "__init__" =some (some (.ref q8)))
  (bc7:g_4 aa9=true)
  (ba7:nsFind aa9 "__init__" =some (.ref q8))
  (as8:K.lookup ai7=some ⟨bd2,am1, .cls ac1,an8⟩)
  (ay1:K.lookup ac1.ns=some ⟨at0,ao5, .dict y4 ak4,ao3⟩)
  (bc2:g_4 y4=true)
  (as6:nsFind y4 "__init__" =none)
  (au1:findIn K (.ref c8) "__setattr__" =some (some (.builtin "object.__setattr__")))
  (ag5:findIn K (.ref c8) "at" =some none)
  (ak8:keepIn K (.ref c8)=true)
  (ab7:K.lookup q8=some ⟨.type "function",ar7, .func (fnOf "__init__" "NoKey.__init__" (g_1 j_5) (d_7 j_5) (a_8 j_5) .none as3 as5 au2 ba2 ad9 aw8),ap7⟩)
  (ap3:codeIn K ad9 "NoKey.__init__" =true)
  (am7:keepIn K (.ref q8)=true)
  (ae5:findIn K (.ref c8) "__getattribute__" =some (some (.builtin "BaseException.__getattribute__")))
  (af9:findIn K (.ref c8) "__getattr__" =some none)
  (ae1:mroIn K c8 (.type "BaseException")=some true)
  (af6:hasDictIn K c8=true)
  (bc8:findIn K (.ref c8) "__class__" =some (some (.builtin "object.__class__")))
  (au6:mroIn K c8 (.type "object")=some true)
  (aa5:exmOne K (.ref c8) (.ref b9)=some false)
  (af7:K.lookup g7=some (excClassObj aw0 bc5 g7 aj0 bd1 (.ref ai8::bmVE) true aw3 ak9 ax7 ap2 az6 ax1 az5 av3 ba8 bb9 "ValueError.__new__"))
  (ay6:K.lookup aj0=some ⟨bc4,bb1, .dict ab1 as9,az9⟩)
  (bf6:findIn K (.ref g7) "__init__" =some (some (.ref p4)))
  (ax3:g_4 ab1=true)
  (aw2:nsFind ab1 "__init__" =some (.ref p4))
  (as4:K.lookup ai8=some ⟨ay2,an1, .cls ac6,an3⟩)
  (ba5:K.lookup ac6.ns=some ⟨bc3,ao1, .dict y7 ap4,ao6⟩)
  (az7:g_4 y7=true)
  (ax6:nsFind y7 "__init__" =none)
  (ax9:findIn K (.ref g7) "__setattr__" =some (some (.builtin "object.__setattr__")))
  (af0:findIn K (.ref g7) "at" =some none)
  (an6:keepIn K (.ref g7)=true)
  (ac4:K.lookup p4=some ⟨.type "function",aj7, .func (fnOf "__init__" "Twice.__init__" (g_1 j_4) (d_7 j_4) (a_8 j_4) .none aw7 bd0 bb3 ba9 ag4 at9),ap9⟩)
  (ao0:codeIn K ag4 "Twice.__init__" =true)
  (ar2:keepIn K (.ref p4)=true)
  (ag1:findIn K (.ref g7) "__getattribute__" =some (some (.builtin "BaseException.__getattribute__")))
  (af4:findIn K (.ref g7) "__getattr__" =some none)
  (ae6:mroIn K g7 (.type "BaseException")=some true)
  (ae4:hasDictIn K g7=true)
  (bc1:findIn K (.ref g7) "__class__" =some (some (.builtin "object.__class__")))
  (ay7:mroIn K g7 (.type "object")=some true)
  (ab2:exmOne K (.ref g7) (.ref b9)=some false)
  (ag2:K.lookup b9=some (excClassObj bc9 bc6 b9 ai9 at4 (.ref aj1::bmVE) true au0 aq6 ay9 ak0 aw6 az4 au9 at6 av4 bb5 "ValueError.__new__"))
  (ba6:K.lookup ai9=some ⟨au8,az0, .dict aa2 av8,aw5⟩)
  (be8:findIn K (.ref b9) "__init__" =some (some (.ref p8)))
  (ax2:g_4 aa2=true)
  (bc0:nsFind aa2 "__init__" =some (.ref p8))
  (av9:K.lookup aj1=some ⟨ay8,aj4, .cls ac5,aj5⟩)
  (az3:K.lookup ac5.ns=some ⟨au5,ar5, .dict y6 aj9,ar4⟩)
  (ax8:g_4 y6=true)
  (av2:nsFind y6 "__init__" =none)
  (at3:findIn K (.ref b9) "__setattr__" =some (some (.builtin "object.__setattr__")))
  (af8:findIn K (.ref b9) "at" =some none)
  (ak2:keepIn K (.ref b9)=true)
  (ab9:K.lookup p8=some ⟨.type "function",ap8, .func (fnOf "__init__" "NoFit.__init__" (g_1 j_3) (d_7 j_3) (a_8 j_3) .none aw4 bb2 at5 av7 ae9 p5),ar8⟩)
  (am8:codeIn K ae9 "NoFit.__init__" =true)
  (am4:keepIn K (.ref p8)=true)
  (ae8:findIn K (.ref b9) "__getattribute__" =some (some (.builtin "BaseException.__getattribute__")))
  (af3:findIn K (.ref b9) "__getattr__" =some none)
  (ae0:mroIn K b9 (.type "BaseException")=some true)
  (ag3:hasDictIn K b9=true)
  (at8:findIn K (.ref b9) "__class__" =some (some (.builtin "object.__class__")))
  (ax4:mroIn K b9 (.type "object")=some true)
  (ab0:exmOne K (.ref b9) (.ref b9)=some true)
  (am3:K.lookup d0=some (excClassObj an4 as2 d0 ag0 aq4 (.ref ag6::bmVE) true am9 ah2 al5 ah0 aq7 al6 ar1 al1 aq9 al4 "ValueError.__new__"))
  (ao4:K.lookup ag0=some ⟨ao8,ao7, .dict y8 aq5,aq2⟩)
  (al0:g_4 y8=true)
  (as1:nsFind y8 "__init__" =none)
  (am5:K.lookup ag6=some ⟨ak3,ah3, .cls ab4,ai2⟩)
  (aq0:K.lookup ab4.ns=some ⟨aj8,ai5, .dict v9 ai1,ai3⟩)
  (an7:g_4 v9=true)
  (al8:nsFind v9 "__init__" =none)
  (ah7:keepIn K (.ref d0)=true)
  (ar6:findIn K (.ref d0) "__getattribute__" =some (some (.builtin "BaseException.__getattribute__")))
  (am2:findIn K (.ref d0) "__getattr__" =some none)
  (aj3:mroIn K d0 (.type "BaseException")=some true)
  (an9:hasDictIn K d0=true)
  (ar3:findIn K (.ref d0) "__class__" =some (some (.builtin "object.__class__")))
  (aq8:mroIn K d0 (.type "object")=some true)
  (aa1:exmOne K (.ref d0) (.ref b9)=some false)
  (ac8:specialIn K (.builtin "object.__class__") "__get__" =some (some (.builtin "getset_descriptor.__get__")))
  (ad7:takesIn K (.builtin "object.__class__")=some true):
  ∃fd:FuncData,(∀(s:Shared) (v:Value),BindsTo s fd ⟨[v], []⟩ [("_law_script",v)])∧∀base:Heap,K.In base→base.Ns mainGlobals mg→FnOk l.prog w K mg base CX0 51 fa fd ["_law_script"] (am_1 K):=by
 have ba0:=mg_of X G ay3
 have ak5:=mg_of X G i6
 have j4:Cls K b7:=⟨al7,as0,ar9,ap5⟩
 have c7:OFld K ["Halved"] "how_many" :=(.one i6 j4 v6 .nil)
 have o7:OFld K ["Halved"] "leaf" :=(.one i6 j4 aa3 .nil)
 have j6:OFld K ["Halved"] "salts" :=(.one i6 j4 z9 .nil)
 have ay4:=mg_of X G y2
 have bb7:=mg_of X G y1
 have x9:=mg_of X G x8
 have am6:=mg_of X G z6
 have ac2:=ay_4 af5 au1
 have ao2:XMk K c8 q8:=bk_6 af5 ba1 bc7 ba7 as8 ay1 bc2 as6
 have be3:XInst K c8:=⟨ae5,af9,ae1,af6,bc8,ac8,ad7,au6⟩
 have ae2:=al_5 (x:= "__init__") (qual:= "NoKey.__init__") (st:=j_5) ab7 ap3 am7
 have au7:=Fun.binds2 (ps:= ["self", "at"]) ae2 rfl fun _ _ _ _ _ _ _ _=>rfl
 have ac3:=ay_4 af7 ax9
 have aq1:XMk K g7 p4:=bk_6 af7 ay6 ax3 aw2 as4 ba5 az7 ax6
 have be1:XInst K g7:=⟨ag1,af4,ae6,ae4,bc1,ac8,ad7,ay7⟩
 have ae7:=al_5 (x:= "__init__") (qual:= "Twice.__init__") (st:=j_4) ac4 ao0 ar2
 have ax0:=Fun.binds2 (ps:= ["self", "at"]) ae7 rfl fun _ _ _ _ _ _ _ _=>rfl
 have ab8:=ay_4 ag2 at3
 have ap1:XMk K b9 p8:=bk_6 ag2 ba6 ax2 bc0 av9 az3 ax8 av2
 have be2:XInst K b9:=⟨ae8,af3,ae0,ag3,at8,ac8,ad7,ax4⟩
 have ad8:=al_5 (x:= "__init__") (qual:= "NoFit.__init__") (st:=j_3) ab9 am8 am4
 have ay0:=Fun.binds2 (ps:= ["self", "at"]) ad8 rfl fun _ _ _ _ _ _ _ _=>rfl
 have ah8:XMk0 K d0:=ck_2 am3 ao4 al0 as1 am5 aq0 an7 al8
 have be0:XInst K d0:=⟨ar6,am2,aj3,an9,ar3,ac8,ad7,aq8⟩
 have y9:XC0 K mg "NoKeys" d0:=⟨z6,am6,ah7,ah8⟩
 have p5:Catches K b9 [("NoFit",true),("NoKey",false),("NoKeys",false),("Twice",false)]:=(.one x8 ab0 (.one y2 aa5 (.one z6 aa1 (.one y1 ab2 .nil))))
 have aw1:XGets K ["NoFit", "NoKey", "Twice"] "at" :=(.one x8 ⟨ae8,af3,ae0,ag3,af8⟩ (.one y2 ⟨ae5,af9,ae1,af6,ag5⟩ (.one y1 ⟨ag1,af4,ae6,ae4,af0⟩ .nil)))
 have e:=hfa.symm.trans (mg_of X G a41)
 cases e
 have b8:=mg_none_of X G bf1
 have z8:=mg_none_of X G bf4
 have j1:=mg_none_of X G bd6
 have aa4:=mg_none_of X G bf7
 have o9:=mg_none_of X G be9
 have ac0:=mg_none_of X G be6
 have b4:=mg_none_of X G ad0
 have y3:=mg_none_of X G bd8
 have bb8:=mg_none_of X G bf2
 have ab6:=mg_none_of X G bf0
 have j9:=mg_none_of X G af2
 have l0:=mg_none_of X G bd9
 have o6:=mg_none_of X G ah1
 have ab3:=mg_none_of X G aw9
 have l6:KitT K "int" :=⟨al3,at7,aj6,al9,ak7,an5⟩
 have m9:KitT K "bool" :=⟨ah6,aq3,ah9,ai6,ah5,ai4⟩
 have r9:KitT K "str" :=⟨al2,au4,ap6,an0,ak1,ar0⟩
 have aa6:KitT K "list" :=⟨ag9,ao9,ag7,ai0,ag8,ah4⟩
 have o5:=mg_of X G ad3
 have u0:=mg_of X G bd3
 have k4:=mg_of X G x4
 have x6:=mg_of X G bd4
 have p9:=mg_of X G af1
 obtain⟨f1,a1,d1,F1⟩:=w1
 obtain⟨f2,a2,d2,F2⟩:=w2
 obtain⟨f3,a3,d3,F3⟩:=w3
 obtain⟨f4,a4,d4,F4⟩:=w4
 obtain⟨f5,a5,d5,F5⟩:=w5
 obtain⟨f6,a6,d6,F6⟩:=w6
 obtain⟨f7,a7,d7,F7⟩:=w7
 obtain⟨f8,a8,d8,F8⟩:=w8
 obtain⟨f9,a9,d9,F9⟩:=w9
 obtain⟨f10,a10,d10,F10⟩:=w10
 obtain⟨f11,a11,d11,F11⟩:=w11
 obtain⟨f12,a12,d12,F12⟩:=w12
 obtain⟨f13,a13,d13,F13⟩:=w13
 obtain⟨f14,a14,d14,F14⟩:=w14
 obtain⟨f15,a15,d15,F15⟩:=w15
 obtain⟨f16,a16,d16,F16⟩:=w16
 obtain⟨f17,a17,d17,F17⟩:=w17
 obtain⟨f18,a18,d18,F18⟩:=w18
 obtain⟨f19,a19,d19,F19⟩:=w19
 obtain⟨f20,a20,d20,F20⟩:=w20
 obtain⟨f21,a21,d21,F21⟩:=w21
 obtain⟨f22,a22,d22,F22⟩:=w22
 obtain⟨f23,a23,d23,F23⟩:=w23
 obtain⟨f24,a24,d24,F24⟩:=w24
 obtain⟨f25,a25,d25,F25⟩:=w25
 obtain⟨f26,a26,d26,F26⟩:=w26
 obtain⟨f27,a27,⟨d27,F27⟩,k27,i27⟩:=w27
 obtain⟨f28,a28,⟨d28,F28⟩,k28,i28⟩:=w28
 obtain⟨f29,a29,⟨d29,F29⟩,k29,i29⟩:=w29
 obtain⟨f30,a30,⟨d30,F30⟩,k30,i30⟩:=w30
 obtain⟨f31,a31,⟨d31,F31⟩,k31,i31⟩:=w31
 obtain⟨f32,a32,d32,F32⟩:=w32
 obtain⟨f33,a33,d33,F33⟩:=w33
 obtain⟨f34,a34,d34,F34⟩:=w34
 obtain⟨f35,a35,d35,F35⟩:=w35
 obtain⟨f36,a36,d36,F36⟩:=w36
 obtain⟨f37,a37,d37,F37⟩:=w37
 obtain⟨f38,a38,d38,F38⟩:=w38
 obtain⟨f39,a39,⟨d39,F39⟩⟩:=w39
 obtain⟨f40,a40,⟨d40,F40⟩,k40,i40⟩:=w40
 have F41:=al_5 (st:=ao_8) l41 c41 k41
 refine⟨fnOf "law" "law" (g_1 ao_8) (d_7 ao_8) (a_8 ao_8) .none bf8 be5 be4 bf5 bd7 be7,fun s v=> .of_eq rfl,fun base _ _=> ?_⟩
 have u6:XC l.prog w K mg base "NoKey" "at" c8:=⟨y2,ay4,ak8,ac2,⟨_,_,_,_,ao2,ab7,rfl,ar_1 ae2 ac2 ag5,au7⟩⟩
 have ad1:XC l.prog w K mg base "Twice" "at" g7:=⟨y1,bb7,an6,ac3,⟨_,_,_,_,aq1,ac4,rfl,aq_9 ae7 ac3 af0,ax0⟩⟩
 have ad6:XC l.prog w K mg base "NoFit" "at" b9:=⟨x8,x9,ak2,ab8,⟨_,_,_,_,ap1,ab9,rfl,aq_7 ad8 ab8 af8,ay0⟩⟩
 have h8:t_5 l.prog w K mg base:=c_4 F1 (mg_of X G a1) (Fun.binds2 F1) (bl_6 F1 b8)
 have c9:t_6 l.prog w K mg base:=c_4 F2 (mg_of X G a2) (Fun.binds2 F2) (bl_7 F2)
 have j7:aa_7 l.prog w K mg base:=c_4 F3 (mg_of X G a3) (Fun.binds2 F3) (bh_6 F3 c9 h8)
 have r6:ai_0 l.prog w K mg base:=c_4 F4 (mg_of X G a4) (Fun.binds1 F4) (ba_1 F4 c9)
 have p0:ai_1 l.prog w K mg base:=c_4 F5 (mg_of X G a5) (Fun.binds3 F5) (ba_2 F5 h8 j7 r6 c9 z8 b8 j1 aa4)
 have k9:ag_6 l.prog w K mg base:=c_4 F6 (mg_of X G a6) (Fun.binds1 F6) (bl_8 F6 j1 o9)
 have v5:ao_0 l.prog w K mg base:=c_4 F7 (mg_of X G a7) (Fun.binds3 F7) (bh_7 F7 p0 k9 h8)
 have p7:ai_2 l.prog w K mg base:=c_4 F8 (mg_of X G a8) (Fun.binds1 F8) (ba_3 F8)
 have g8:r_6 l.prog w K mg base:=c_4 F9 (mg_of X G a9) (Fun.binds3 F9) (ba_4 F9)
 have n5:ae_0 l.prog w K mg base:=c_4 F10 (mg_of X G a10) (Fun.binds2 F10) (ar_2 F10 g8 b8 ac0)
 have j8:aa_8 l.prog w K mg base:=c_4 F11 (mg_of X G a11) (Fun.binds2 F11) (bh_8 F11 g8)
 have n6:ao_1 l.prog w K mg base:=c_4 F12 (mg_of X G a12) (Fun.binds3 F12) (bh_9 F12 n5 j8 b8)
 have o8:ae_1 l.prog w K mg base:=c_4 F13 (mg_of X G a13) (Fun.binds4 F13) (z_7 F13 (mg_of X G a13) (Fun.binds4 F13) n6 j8 b8 45)
 have l4:ai_3 l.prog w K mg base:=c_4 F14 (mg_of X G a14) (Fun.binds1 F14) (ba_5 F14 b4 o9 l6)
 have j3:x_1 l.prog w K mg base:=c_4 F15 (mg_of X G a15) (Fun.binds1 F15) (ba_6 F15 b4 o9 y3 l6 m9)
 have k6:t_7 l.prog w K mg base:=c_4 F16 (mg_of X G a16) (Fun.binds2 F16) (r_8 F16 (mg_of X G a16) (Fun.binds2 F16) 45)
 have n8:ao_2 l.prog w K mg base:=c_4 F17 (mg_of X G a17) (Fun.binds4 F17) (bi_0 F17 g8 k6)
 have m7:z_5 l.prog w K mg base:=c_4 F18 (mg_of X G a18) (Fun.binds1 F18) (ao_4 F18 b8 bb8 o5 u0)
 have m8:ao_3 l.prog w K mg base:=c_4 F19 (mg_of X G a19) (Fun.binds1 F19) (bu_8 F19 m7 b4 y3 o9 ab6 m9 l6 r9 k4)
 have i8:o_8 l.prog w K mg base:=c_4 F20 (mg_of X G a20) (Fun.binds1 F20) (ag_8 F20 m8 j9 u6)
 have ad4:bq_5 l.prog w K mg base:=c_4 F21 (mg_of X G a21) (Fun.binds1 F21) (cd_9 F21 u0)
 have u7:ba_0 l.prog w K mg base:=c_4 F22 (mg_of X G a22) (Fun.binds1 F22) (ce_0 F22 m8 ad4 b4 ab6 r9 u6)
 have h9:t_8 l.prog w K mg base:=c_4 F23 (mg_of X G a23) (Fun.binds2 F23) (bl_9 F23 z8)
 have g9:r_7 l.prog w K mg base:=c_4 F24 (mg_of X G a24) (Fun.binds1 F24) (ba_7 F24)
 have l2:ak_7 l.prog w K mg base:=c_4 F25 (mg_of X G a25) (Fun.binds3 F25) (ce_1 F25 x6)
 have l7:x_2 l.prog w K mg base:=c_4 F26 (mg_of X G a26) (Fun.binds2 F26) (v_1 F26 (mg_of X G a26) (Fun.binds2 F26) h9 g9 45)
 have u9:MethD l.prog w K mg base true 47 1 "number_of" "Halved" d_4:=⟨⟨b7,_,_,_,i6,j4,⟨a27,i27,k27⟩,y_5 F27 u7 h9 g9 l2 l7 c7 o7 j6,(Fun.binds2 F27)⟩⟩
 have j5:MethT l.prog w K mg base true 47 1 "number_of" [("Halved",d_4)]:=(.one u9 (by decide) .nil)
 have aa7:MethD l.prog w K mg base true 48 1 "room" "Halved" c_3:=⟨⟨b7,_,_,_,i6,j4,⟨a28,i28,k28⟩,ao_5 F28 j5 c7 aa4,(Fun.binds2 F28)⟩⟩
 have j0:MethT l.prog w K mg base true 48 1 "room" [("Halved",c_3)]:=(.one aa7 (by decide) .nil)
 have aa0:MethD l.prog w K mg base true 49 1 "rooms" "Halved" b_2:=⟨⟨b7,_,_,_,i6,j4,⟨a29,i29,k29⟩,aj_0 F29 i8 j0,(Fun.binds2 F29)⟩⟩
 have y0:MethD l.prog w K mg base true 1 0 "numbers" "Halved" c_1:=⟨⟨b7,_,_,_,i6,j4,⟨a30,i30,k30⟩,ae_3 F30 j6 l0,(Fun.binds1 F30)⟩⟩
 have aa8:MethD l.prog w K mg base true 1 0 "many" "Halved" f_6:=⟨⟨b7,_,_,_,i6,j4,⟨a31,i31,k31⟩,ao_6 F31 c7,(Fun.binds1 F31)⟩⟩
 have i7:MethT l.prog w K mg base true 49 1 "rooms" [("Halved",b_2)]:=(.one aa0 (by decide) .nil)
 have j2:MethT l.prog w K mg base true 1 0 "numbers" [("Halved",c_1)]:=(.one y0 (by decide) .nil)
 have l8:MethT l.prog w K mg base true 1 0 "many" [("Halved",f_6)]:=(.one aa8 (by decide) .nil)
 have l9:ai_4 l.prog w K mg base:=c_4 F32 (mg_of X G a32) (Fun.binds4 F32) (ba_8 F32 j3 i7 j2 l8 l0 o6 b4 b8 aa6)
 have m6:z_6 l.prog w K mg base:=c_4 F33 (mg_of X G a33) (Fun.binds1 F33) (ao_7 F33 j9 ad1)
 have q9:ai_5 l.prog w K mg base:=c_4 F34 (mg_of X G a34) (Fun.binds1 F34) (ba_9 F34 i8 m6 b8 y9 p9)
 have k7:ag_7 l.prog w K mg base:=c_4 F35 (mg_of X G a35) (Fun.binds3 F35) (bm_0 F35 l2)
 have p6:ai_6 l.prog w K mg base:=c_4 F36 (mg_of X G a36) (Fun.binds3 F36) (bb_0 F36 h9 l2 k7 g9 b8 ac0)
 have n9:ae_2 l.prog w K mg base:=c_4 F37 (mg_of X G a37) (Fun.binds3 F37) (ar_3 F37 p6 j1)
 have q5:ai_7 l.prog w K mg base:=c_4 F38 (mg_of X G a38) (Fun.binds3 F38) (bb_1 F38 n9 h9 k7 b8 ad6)
 have i9:MakB l.prog w K mg base true "House" "Halved" 1 1 c_5:=⟨ad2,b7,_,_,_,i6,ba0,a39,s_5 F39 i6 c7,(Fun.binds2 F39)⟩
 have z7:MakD l.prog w K mg base true "Halved" 6 3 o_3:=⟨b7,_,_,_,i6,ak5,⟨ak6,a40,i40,ap0⟩,aa_9 F40 i6 q9 q5 u7 i9 o7 j6,(Fun.binds4 F40)⟩
 exact cs_0 (ct_8 (P:=l.prog) (w:=w) (base:=base) F41 v5 p7 h8 o8 l4 j3 n8 l9 k9 c9 j7 z7 j0 l0 b8 ab3 j1 x9 p5 aw1) cd_8
end My


open PySem PySem.W PyProof.Rows
set_option maxRecDepth 100000 in
set_option maxHeartbeats 0 in
theorem PySem.Challenge.cw_lodge_k66_halves_by_rule_holds : PySem.Challenge.rw_lodge_k66_halves_by_rule.Holds := by
 w_on; o_law; k_head; (case hw => w_witness2)
 k_fill
 refine L3.cx_2 (l := PySem.Challenge.rw_lodge_k66_halves_by_rule) (x := "_law_script") (k := 51) rfl rfl ⟨rfl, by decide, by decide⟩ (fun w h Y => PySem.W.kIn_of Y) ?F
 case F =>
  intro w mg fa h KX G hmg
  refine' My.ct_9 KX G hmg ?c1 ?c2 ?c3 ?c4 ?c5 ?c6 ?c7 ?c8 ?c9 ?c10 ?c11 ?c12 ?c13 ?c14 ?c15 ?c16 ?c17 ?c18 ?c19 ?c20 ?c21 ?c22 ?c23 ?c24 ?c25 ?c26 ?c27 ?c28 ?c29 ?c30 ?c31 ?c32 ?c33 ?c34 ?c35 ?c36 ?c37 ?c38 ?c39 ?c40 ?c41 ?c42 ?c43 ?c44 ?c45 ?c46 ?c47 ?c48 ?c49 ?c50 ?c51 ?c52 ?c53 ?c54 ?c55 ?c56 ?c57 ?c58 ?c59 ?c60 ?c61 ?c62 ?c63 ?c64 ?c65 ?c66 ?c67 ?c68 ?c69 ?c70 ?c71 ?c72 ?c73 ?c74 ?c75 ?c76 ?c77 ?c78 ?c79 ?c80 ?c81 ?c82 ?c83 ?c84 ?c85 ?c86 ?c87 ?c88 ?c89 ?c90 ?c91 ?c92 ?c93 ?c94 ?c95 ?c96 ?c97 ?c98 ?c99 ?c100 ?c101 ?c102 ?c103 ?c104 ?c105 ?c106 ?c107 ?c108 ?c109 ?c110 ?c111 ?c112 ?c113 ?c114 ?c115 ?c116 ?c117 ?c118 ?c119 ?c120 ?c121 ?c122 ?c123 ?c124 ?c125 ?c126 ?c127 ?c128 ?c129 ?c130 ?c131 ?c132 ?c133 ?c134 ?c135 ?c136 ?c137 ?c138 ?c139 ?c140 ?c141 ?c142 ?c143 ?c144 ?c145 ?c146 ?c147 ?c148 ?c149 ?c150 ?c151 ?c152 ?c153 ?c154 ?c155 ?c156 ?c157 ?c158 ?c159 ?c160 ?c161 ?c162 ?c163 ?c164 ?c165 ?c166 ?c167 ?c168 ?c169 ?c170 ?c171 ?c172 ?c173 ?c174 ?c175 ?c176 ?c177 ?c178 ?c179 ?c180 ?c181 ?c182 ?c183 ?c184 ?c185 ?c186
  (case c1 | c2 | c3 | c4 | c5 | c6 | c7 | c8 | c9 | c10 | c11 | c52 | c53 | c54 | c55 | c56 | c57 | c58 | c59 | c60 | c61 | c62 | c63 | c64 | c65 | c66 | c67 | c68 | c69 | c94 | c95 | c96 | c97 | c98 | c99 | c100 | c101 | c102 | c103 | c104 | c105 | c108 | c109 | c112 | c113 | c114 | c115 | c116 | c117 | c118 | c119 | c120 | c121 | c122 | c123 | c125 | c126 | c127 | c130 | c131 | c134 | c135 | c136 | c137 | c138 | c139 | c140 | c141 | c142 | c143 | c144 | c145 | c147 | c148 | c149 | c152 | c153 | c156 | c157 | c158 | c159 | c160 | c161 | c162 | c163 | c164 | c165 | c166 | c167 | c169 | c170 | c173 | c174 | c177 | c178 | c179 | c180 | c181 | c182 | c183 | c185 | c186 => k_is)
  (case c12 | c13 | c14 | c15 | c16 | c17 | c18 | c19 | c20 | c21 | c22 | c23 | c24 | c25 | c26 | c27 | c28 | c29 | c30 | c31 | c32 | c33 | c34 | c35 | c36 | c37 | c43 | c44 | c45 | c46 | c47 | c48 | c49 => (refine' L3.FnTop.mk ?a ?l ?c ?k; (case a => k_is); (case l => k_is); (case c => k_is); (case k => k_is)))
  (case c38 | c39 | c40 | c41 | c42 | c51 => (refine' L3.FnMet.mk ?a ?l ?c ?k ?i; (case a => k_is); (case l => k_is); (case c => k_is); (case k => k_is); (case i => k_is)))
  (case c50 => (refine' L3.FnBase.mk ?s ?r ?a ?l ?c ?k; (case s => k_is); (case r => k_is); (case a => k_is); (case l => k_is); (case c => k_is); (case k => k_is)))
  (case c70 | c71 | c72 | c73 | c74 | c75 | c76 | c77 | c78 | c79 | c80 | c81 | c82 | c83 | c84 | c85 | c86 | c87 | c88 | c89 | c90 | c91 | c92 | c93 => kit_is)
  (case c106 | c107 | c110 | c111 | c128 | c129 | c132 | c133 | c150 | c151 | c154 | c155 | c171 | c172 | c175 | c176 => rfl)
  (case c124 | c146 | c168 | c184 => kts_exm)

end
