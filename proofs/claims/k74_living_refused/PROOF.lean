import PyProof.Rows.All
import Wide.All
import OpenK.AllK
import Wide.FinOn
import Lean
import PyProof.EqAt
import PyProof.EqKinds
import PyProof.TupleCall
import PySem.Challenge.RW_lodge_k74_living_refused
set_option Elab.async false
set_option linter.all false
set_option maxRecDepth 100000
set_option genSizeOf false
namespace PySem.W.Fast
def tw6869460386554148726 := 0
def tw3282152000131778007 := 0
def tw14391970951110701882 := 0
def tw7936290727838646942 := 0
def tw2628417584944147097 := 0
def tw1005684238896711506 := 0
def tw1336688617646675586 := 0
def tw16233553172479773807 := 0
def tw5950747900943473832 := 0
def tw14837248500524215179 := 0
def tw8682438122175898306 := 0
def tw570893629309680002 := 0
def tw14557032974963877053 := 0
def tw13977055635507012390 := 0
def tw14086269396036965119 := 0
def tw4510215832439016177 := 0
def tw3233069747587782125 := 0
def tw2709376652717111754 := 0
def tw5949933381604203279 := 0
def tw2237701171051433117 := 0
def tw4398490854027423630 := 0
def tw12576758532738081300 := 0
def tw7043313959299125980 := 0
def tw12822078833492843416 := 0
def tw13776132539633130304 := 0
def tw15720786494287542970 := 0
def tw4771545288645626846 := 0
def tw16931891752973039835 := 0
def tw3877151442481584454 := 0
def tw1907088130921919864 := 0
end PySem.W.Fast
noncomputable section
open PySem.W (Frag InitBack InstAt KdlKeysView KitX Looks any_some bind_fn callWith_K callWith_K0 cellsFrom_some check_slot class_get clsIn codeIn codeRec_of emptyDict eq_bytes exmOne exm_one findCls findIn findObj findObj_own fnOf get_value handedIn handedOut_of handed_on hasDictIn hideAll hideAll_get hideAll_none hideAll_size instObj isFn kdl_call kdl_dict kdl_keys kdl_meets_keys keepIn keq_ne kia_one kia_tup kitAny kitOne kitx_bool kitx_int kitx_list kitx_none kitx_str kitx_tuple lookIn looks_clsIn looks_find looks_findIn looks_mroIn make_core makesIn makes_of methodCall_KW methodObj method_fn mg_none_of mg_of mroIn ne_bytes notCls nsIn of_hideAll osa_eq osa_open plainGet plainGet_of plainOver readsIn set_plain specialIn takerIn takesIn truthy_bytes typeIn)
local macro_rules
 | `(tactic| simp_arith [$xs,*] $[$l:location]?) => `(tactic| simp only [Nat.reduceAdd, Nat.reduceSub, Nat.reduceLeDiff, ↓reduceIte, reduceCtorEq, $xs,*] $[$l:location]?)
namespace L2
open PySem PySem.Spec PyProof.Rows
abbrev Key:=Sum Int Str
def av_9:Key→Value→Bool
 | .inl k,v=>Value.isInt k v
 | .inr x,v=>Value.isStrOf x v
def keyH(w:World):Key→Int
 | .inl k=>hashInt k
 | .inr x=>hashStr w x
theorem g_2:∀{k:Key} {v:Value},av_9 k v=true→(∃i t,k=Sum.inl i∧v=Value.int i t)∨(∃x t,k=Sum.inr x∧v=Value.str x t)
 | .inl i,v,h=>by
  obtain⟨t,e⟩:=Value.isInt_shape (k:=i) (v:=v) h;exact .inl ⟨i,t,rfl,e⟩
 | .inr x,v,h=>by
  obtain⟨t,e⟩:=Value.isStrOf_shape (x:=x) (v:=v) h;exact .inr ⟨x,t,rfl,e⟩
theorem cb_7(i:Int)(t:Tok):av_9 (.inl i) (.int i t)=true:=by simp [av_9,Value.isInt]
theorem cb_8(x:Str)(t:Tok):av_9 (.inr x) (.str x t)=true:=by simp [av_9,Value.isStrOf]
theorem dd_1(a b:Int):decide ((Sum.inl a:Key)=Sum.inl b)=(a ==b):=by
 by_cases e:a=b
 ·subst e;simp
 ·have h:¬(Sum.inl a:Key)=Sum.inl b:=fun q=>e (Sum.inl.inj q);rw [decide_eq_false h];exact(beq_eq_false_iff_ne.mpr e).symm
theorem dd_2(a b:Str):decide ((Sum.inr a:Key)=Sum.inr b)=decide (a=b):=by
 by_cases e:a=b
 ·subst e;simp
 ·have h:¬(Sum.inr a:Key)=Sum.inr b:=fun q=>e (Sum.inr.inj q);rw [decide_eq_false h,decide_eq_false e]
theorem dd_3(a:Int)(b:Str):decide ((Sum.inl a:Key)=Sum.inr b)=false:=decide_eq_false (fun q=>nomatch q)
theorem dd_4(a:Str)(b:Int):decide ((Sum.inr a:Key)=Sum.inl b)=false:=decide_eq_false (fun q=>nomatch q)
def e_1(prog:Program)(w:World):PySem.KeyKind prog w Key where
 is:=av_9
 hash:=keyH w
 inj:=fun v a b ha hb=>by
  rcases g_2 ha with⟨i,t,rfl,rfl⟩|⟨x,t,rfl,rfl⟩
  ·rcases g_2 hb with⟨j,u,rfl,e⟩|⟨y,u,rfl,e⟩
   ·injection e with e1 _;rw [e1]
   ·exact nomatch e
  ·rcases g_2 hb with⟨j,u,rfl,e⟩|⟨y,u,rfl,e⟩
   ·exact nomatch e
   ·injection e with e1 _;rw [e1]
 byValue:=fun k v h=>by
  rcases g_2 h with⟨i,t,rfl,rfl⟩|⟨x,t,rfl,rfl⟩ <;> rfl
 pyHash:=fun hv h=>by
  rcases g_2 hv with⟨i,t,rfl,rfl⟩|⟨x,t,rfl,rfl⟩
  ·exact wpAny_pyHash_int h
  ·exact wpAny_pyHash_str h
 eqBool:=fun hu hv h=>by
  rcases g_2 hu with⟨i,t,rfl,rfl⟩|⟨x,t,rfl,rfl⟩
  ·rcases g_2 hv with⟨j,u,rfl,rfl⟩|⟨y,u,rfl,rfl⟩
   ·rw [dd_1] at h;exact wpAny_eqBool_int h
   ·rw [dd_3] at h;exact SeqAt.EqAt.int_str i t y u _ _ _ _ h
  ·rcases g_2 hv with⟨j,u,rfl,rfl⟩|⟨y,u,rfl,rfl⟩
   ·rw [dd_4] at h;exact SeqAt.EqAt.str_int x t j u _ _ _ _ h
   ·rw [dd_2] at h;exact wpAny_eqBool_str h
 «strs»:=fun k x t v h=>by
  rcases g_2 h with⟨i,u,rfl,e⟩|⟨y,u,rfl,e⟩
  ·exact nomatch e
  ·injection e with e1 _
   subst e1;cases v <;> rfl
theorem bg_7(prog:Program)(w:World)(i:Int)(t:Tok):(e_1 prog w).is (.inl i) (.int i t)=true:=cb_7 i t
theorem bg_8(prog:Program)(w:World)(x:Str)(t:Tok):(e_1 prog w).is (.inr x) (.str x t)=true:=cb_8 x t
inductive V where
 |non|bl (b:Bool)|int (i:Int)|str (x:Str)|byt (b:Array UInt8)|flt (b:UInt64)|ref (a:Addr)|ty (n:String)
 deriving DecidableEq
def RelV:V→Value→Prop
 | .non,u=>u=Value.none
 | .bl b,u=>u=Value.bool b
 | .int i,u=>∃t,u=Value.int i t
 | .str x,u=>∃t,u=Value.str x t
 | .byt b,u=>∃t,u=Value.bytes b t
 | .flt b,u=>∃t,u=Value.float b t
 | .ref a,u=>u=Value.ref a
 | .ty n,u=>u=Value.type n
abbrev Vals:List V→List Value→Prop:=Paired RelV
theorem Vals.length{xs:List V}{us:List Value}(r:Vals xs us):xs.length=us.length:=Paired.length r
theorem Vals.get:∀{xs:List V} {us:List Value} {i:Nat} {x:V},Vals xs us→xs[i]? =some x→∃u,us[i]? =some u∧RelV x u
 |_,_,_,_, .nil,e=>by simp at e
 |_,_,0,_, .cons r _,e=>by simp at e;subst e;exact⟨_,rfl,r⟩
 |_,_,i + 1,x, .cons _ t,e=>by
  obtain⟨u,h1,h2⟩:=Vals.get (i:=i) (x:=x) t (by simpa using e);exact⟨u,by simpa using h1,h2⟩
theorem Vals.set{x:V}{u:Value}(r:RelV x u):∀{xs:List V} {us:List Value} (i:Nat),Vals xs us→Vals (xs.set i x) (us.set i u)
 |_,_,_, .nil=> .nil
 |_,_,0, .cons _ t=> .cons r t
 |_,_,i + 1, .cons q t=> .cons q (Vals.set r i t)
theorem Vals.append:∀{xs ys:List V} {us ws:List Value},Vals xs us→Vals ys ws→Vals (xs ++ ys) (us ++ ws)
 |_,_,_,_, .nil,s=>s
 |_,_,_,_, .cons r t,s=> .cons r (Vals.append t s)
theorem Vals.take:∀{xs:List V} {us:List Value} (n:Nat),Vals xs us→Vals (xs.take n) (us.take n)
 |_,_,0,_=> .nil
 |_,_,_ + 1, .nil=> .nil
 |_,_,n + 1, .cons r t=> .cons r (Vals.take n t)
theorem Vals.drop:∀{xs:List V} {us:List Value} (n:Nat),Vals xs us→Vals (xs.drop n) (us.drop n)
 |_,_,0,r=>r
 |_,_,_ + 1, .nil=> .nil
 |_,_,n + 1, .cons _ t=>Vals.drop n t
def RelO:Option V→Option Value→Prop
 |some v,some u=>RelV v u
 |none,none=>True
 |_,_=>False
def KV{κ:Type}:List (κ×V)→List (κ×Value)→Prop:=Paired fun(p:κ×V) (q:κ×Value)=>p.1=q.1∧RelV p.2 q.2
def kV:Key→V
 | .inl i=> .int i
 | .inr x=> .str x
inductive HO where
  |lst (xs:List V)
  |tup (xs:List V)
  |dK (kvs:List (Key×V))|dT (kvs:List (List Key×V))
  |set (S:Int→Bool) (n:Nat)
  |ins (C dx:Addr) (fs:List (Str×V))
  |own (x:Addr)
  |xd (fs:List (Str×V))
  |met (f x:Addr)
  |rng (lo hi:Int)
  |frz (o:Obj) (u:HO)
  |tbl (ps:Array Value)
  |ext (φ:Heap→Prop)
abbrev Hp:=Addr→Option HO
def upd(H:Hp)(a:Addr)(o:HO):Hp:=fun b=>if b=a then some o else H b
theorem a_9{H:Hp}{a:Addr}{o:HO}:upd H a o a=some o:=by unfold upd;rw [if_pos rfl]
theorem a_5{H:Hp}{a b:Addr}{o:HO}(h:b≠a):upd H a o b=H b:=by unfold upd;rw [if_neg h]
theorem dl_4{H:Hp}{a b:Addr}{o u:HO}(h:H a=some o)(h':H b=some u)(d:o≠u):a≠b:=by
 intro e;subst e;rw [h] at h';exact d (Option.some.inj h')
theorem b_9{H:Hp}{a b:Addr}{o:HO}(h:H a=some o)(h':H b=none):a≠b:=by
 intro e;subst e;rw [h] at h';cases h'
section
variable(P:Program)(w:World)
def ObjOk(H:Hp)(h:Heap)(a:Addr):HO→Prop
 | .lst xs=>xs.length≤sizeLine∧∃(its:List Value) (n:Nat),Vals xs its∧h.get? a=some {cls:= .type "list",data:= .seq its.toArray n}
 | .tup xs=>xs.length≤sizeLine∧∃its:List Value,Vals xs its∧IsTup h a its.toArray
 | .dK kvs=>kvs.length≤sizeLine∧(a ==sysModules)=false∧∃vs,KV kvs vs∧h.DictOf (e_1 P w) a vs
 | .dT kvs=>kvs.length≤sizeLine∧(a ==sysModules)=false∧∃xs:List (List Key×Addr×Value),
   Paired (fun(p:List Key×V) (q:List Key×Addr×Value)=>p.1=q.1∧H q.2.1=some (.tup (p.1.map kV))∧RelV p.2 q.2.2) kvs xs∧
   ∃o es ep,h.get? a=some o∧o.ExactDict∧o.data= .dict es ep∧es.toList=xs.map (entryOfKey (tupleKind (e_1 P w)))∧(xs.map (·.1)).Nodup
 | .set S n=>h.SetOf (intKind P w) a S n
 | .ins C dx fs=>H dx=some (.own a)∧fs.length≤1000∧dx≠a∧h.get? a=some (instObj C dx)∧
   ∃mA,h.Ns1 dx mA∧(∀f,RelO (fs.lookup f) (mA f))∧PySem.Within mA (fs.map (·.1))
 | .own _=>∃o,h.get? a=some o
 | .xd fs=>∃mA,h.Ns1 a mA∧∀f,RelO (fs.lookup f) (mA f)
 | .rng lo hi=>∃t u v,h.get? a=some {cls:= .type "range",data:= .fields #[.int lo t, .int hi u, .int 1 v]}
 | .frz o u=>h.get? a=some o∧ObjOk H h a u
 | .tbl ps=>h.get? a=some {cls:= .none,data:= .fields ps}
 | .met f x=>h.get? a=some (methodObj (.ref f) (.ref x))
 | .ext φ=>φ h∧(∃o,h.get? a=some o)∧∀h1 h2:Heap,φ h1→(∀o,h1.get? a=some o→h2.get? a=some o)→φ h2
def HOk(H:Hp)(h:Heap):Prop:=∀a o,H a=some o→ObjOk P w H h a o
end
section
variable{P:Program}{w:World}{H H':Hp}{h h':Heap}{a:Addr}{o:HO}
theorem ObjOk.lt(x:ObjOk P w H h a o):a < h.objs.size:=by
 cases o with
 |lst xs=>obtain⟨_,_,_,_,e⟩:=x;exact Heap.lt_size e
 |tup xs=>obtain⟨_,_,_,p⟩:=x;exact p.lt
 |dK kvs=>obtain⟨_,_,_,_,o,_,_,e,_⟩:=x;exact Heap.lt_size e
 |dT kvs=>obtain⟨_,_,_,_,o,_,_,e,_⟩:=x;exact Heap.lt_size e
 |set S n=>obtain⟨o,_,_,_,e,_⟩:=x;exact Heap.lt_size e
 |ins C dx fs=>obtain⟨_,_,_,e,_⟩:=x;exact Heap.lt_size e
 |own y=>obtain⟨_,e⟩:=x;exact Heap.lt_size e
 |xd fs=>obtain⟨_,⟨_,_,_,e,_⟩,_⟩:=x;exact Heap.lt_size e
 |rng lo hi=>obtain⟨_,_,_,e⟩:=x;exact Heap.lt_size e
 |frz ob u=>obtain⟨e,_⟩:=x;exact Heap.lt_size e
 |tbl ps=>exact Heap.lt_size (show h.get? a=some _ from x)
 |met f y=>exact Heap.lt_size (show h.get? a=some _ from x)
 |ext φ=>obtain⟨_,⟨_,e⟩,_⟩:=x;exact Heap.lt_size e
theorem Paired.mapP{α β:Type}{F G:α→β→Prop}:∀{l₁:List α} {l₂:List β},Paired F l₁ l₂→(∀a b,F a b→G a b)→Paired G l₁ l₂
 |_,_, .nil,_=> .nil
 |_,_, .cons r t,f=> .cons (f _ _ r) (Paired.mapP t f)
theorem ObjOk.stay(x:ObjOk P w H h a o)(k:∀b u,(b=a∨H b=some (.own a))→h.get? b=some u→h'.get? b=some u)
  (ho:∀b,H b=some (.own a)→H' b=some (.own a)) (ht:∀b xs,H b=some (.tup xs)→H' b=some (.tup xs)):ObjOk P w H' h' a o:=by
 induction o with
 |lst xs=>obtain⟨z,its,n,r,e⟩:=x;exact⟨z,its,n,r,k _ _ (.inl rfl) e⟩
 |tup xs=>obtain⟨z,its,r,ob,e,c⟩:=x;exact⟨z,its,r,ob,k _ _ (.inl rfl) e,c⟩
 |dK kvs=>obtain⟨z,y,vs,r,ob,es,ep,e,c⟩:=x;exact⟨z,y,vs,r,ob,es,ep,k _ _ (.inl rfl) e,c⟩
 |dT kvs=>
  obtain⟨z,y,xs,r,ob,es,ep,e,c⟩:=x;exact⟨z,y,xs,Paired.mapP r fun p q z=>⟨z.1,ht _ _ z.2.1,z.2.2⟩,ob,es,ep,k _ _ (.inl rfl) e,c⟩
 |set S n=>obtain⟨ob,es,ep,t,e,c⟩:=x;exact⟨ob,es,ep,t,k _ _ (.inl rfl) e,c⟩
 |ins C dx fs=>
  obtain⟨d,z,ne,e,mA,⟨od,es,ep,e2,c⟩,r⟩:=x;exact⟨ho _ d,z,ne,k _ _ (.inl rfl) e,mA,⟨od,es,ep,k _ _ (.inr d) e2,c⟩,r⟩
 |own y=>obtain⟨ob,e⟩:=x;exact⟨ob,k _ _ (.inl rfl) e⟩
 |xd fs=>obtain⟨mA,⟨od,es,ep,e,c⟩,r⟩:=x;exact⟨mA,⟨od,es,ep,k _ _ (.inl rfl) e,c⟩,r⟩
 |rng lo hi=>obtain⟨t,u,v,e⟩:=x;exact⟨t,u,v,k _ _ (.inl rfl) e⟩
 |frz ob u ih=>obtain⟨e,q⟩:=x;exact⟨k _ _ (.inl rfl) e,ih q⟩
 |tbl ps=>
  have e:h.get? a=some {cls:= .none,data:= .fields ps}:=x;show h'.get? a=some {cls:= .none,data:= .fields ps};exact k a _ (.inl rfl) e
 |met f y=>
  have e:h.get? a=some (methodObj (.ref f) (.ref y)):=x;show h'.get? a=some (methodObj (.ref f) (.ref y));exact k a _ (.inl rfl) e
 |ext φ=>obtain⟨p,⟨o,e⟩,st⟩:=x;exact⟨st _ _ p fun o q=>k _ _ (.inl rfl) q,⟨o,k _ _ (.inl rfl) e⟩,st⟩
theorem HOk.lt(x:HOk P w H h)(e:H a=some o):a < h.objs.size:=(x a o e).lt
theorem HOk.fresh(x:HOk P w H h)(e:h.objs.size≤a):H a=none:=by
 cases q:H a with
 |none=>rfl
 |some u=>exact absurd (Nat.lt_of_lt_of_le (x.lt q) e) (Nat.lt_irrefl _)
theorem HOk.kept(x:HOk P w H h)(k:∀b u,h.get? b=some u→h'.get? b=some u):HOk P w H h':=fun a o e=>
 (x a o e).stay (fun b u _ q=>k b u q) (fun _ q=>q) fun _ _ q=>q
theorem HOk.laid(x:HOk P w H h)(k:∀b u,h.get? b=some u→h'.get? b=some u)(hp:h.objs.size≤a)(new:ObjOk P w (upd H a o) h' a o):HOk P w (upd H a o) h':=fun b u e=>by
 have hn:=x.fresh hp
 by_cases hb:b=a
 ·subst hb;rw [a_9] at e;cases e;exact new
 ·rw [a_5 hb] at e;exact(x b u e).stay (fun c v _ q=>k c v q) (fun c q=>by rw [a_5 (b_9 q hn)];exact q) fun c xs q=>by rw [a_5 (b_9 q hn)];exact q
end
def Rd(H:Hp)(a:Addr)(u:HO):Prop:=H a=some u∨∃o,H a=some (.frz o u)
theorem Rd.ok{P:Program}{w:World}{H:Hp}{h:Heap}{a:Addr}{u:HO}(r:Rd H a u)(x:HOk P w H h):ObjOk P w H h a u:=by
 rcases r with r|⟨o,r⟩
 ·exact x a u r
 ·obtain⟨_,q⟩:=x a _ r;exact q
def Mut:Option HO→Prop
 |some (.lst _)=>True
 |some (.dK _)=>True
 |some (.dT _)=>True
 |some (.set _ _)=>True
 |some (.ins _ _ _)=>True
 |some (.ext _)=>True
 |_=>False
section
variable{P:Program}{w:World}{H:Hp}{h h':Heap}{x e:Addr}{o':HO}
theorem HOk.write(ok:HOk P w H h)(mu:Mut (H x))(he:e=x∨H e=some (.own x))(k:∀b u,b≠e→h.get? b=some u→h'.get? b=some u)(heo:∃u,h'.get? e=some u)
  (new:ObjOk P w (upd H x o') h' x o'):HOk P w (upd H x o') h':=fun b u q=>by
 have cw:∀c y,H c=some (.own y)→c≠x:=fun c y r z=>by subst z;rw [r] at mu;exact mu
 have eh:∀c xs,H c=some (.tup xs)→c≠x:=fun c xs r z=>by subst z;rw [r] at mu;exact mu
 by_cases hb:b=x
 ·subst hb;rw [a_9] at q;cases q;exact new
 ·rw [a_5 hb] at q
  by_cases hbe:b=e
  ·have q':H b=some (.own x):=by
    rcases he with z|z
    ·exact absurd (hbe.trans z) hb
    ·rw [hbe];exact z
   rw [q] at q';cases q';obtain⟨v,hv⟩:=heo;exact⟨v,by rw [hbe];exact hv⟩
  ·refine(ok b u q).stay (fun c v hc r=>k c v ?_ r) (fun c r=>by rw [a_5 (cw c b r)];exact r) fun c xs r=>by rw [a_5 (eh c xs r)];exact r
   rcases hc with rfl|hc
   ·exact hbe
   ·rintro rfl
    rcases he with z|z
    ·exact cw c b hc z
    ·rw [hc] at z;cases z;exact hb rfl
end
structure Un(fs ex:List Addr)(H H':Hp)(h h':Heap):Prop where
 keep:∀b o,h.get? b=some o→H b=none→b∉fs→b∉ex→h'.get? b=some o
 slot:∀b o,h.get? b=some o→H b=none→b∈fs→b∉ex→∃sl,h'.get? b=some {o with slots:=sl}
 free:∀b o,h.get? b=some o→H b=none→b∉ex→H' b=none
 there:∀b o,h.get? b=some o→b∉ex→∃o',h'.get? b=some o'
 tups:∀b xs,H b=some (.tup xs)→H' b=some (.tup xs)
 frzs:∀b o u,H b=some (.frz o u)→H' b=some (.frz o u)
 tbls:∀b ps,H b=some (.tbl ps)→∃more,H' b=some (.tbl (ps ++ more))
section
variable{fs fs' ex ex':List Addr}{H H1 H2:Hp}{h h1 h2 h':Heap}{a x e:Addr}{o:HO}
theorem Un.any(u:Un fs ex H H1 h h1){b:Addr}{ob:Obj}(q:h.get? b=some ob)(n:H b=none)(hx:b∉ex):∃sl,h1.get? b=some {ob with slots:=sl}:=by
 by_cases hb:b∈fs
 ·exact u.slot b ob q n hb hx
 ·exact⟨ob.slots,u.keep b ob q n hb hx⟩
theorem Un.kept(k:∀b u,h.get? b=some u→h'.get? b=some u):Un fs ex H H h h':=
 ⟨fun b ob q _ _ _=>k b ob q,fun b ob q _ _ _=>⟨ob.slots,k b ob q⟩,fun _ _ _ n _=>n,fun b ob q _=>⟨ob,k b ob q⟩,fun _ _ q=>q,fun _ _ _ q=>q,fun _ ps q=>⟨#[],by rw [q];simp⟩⟩
theorem Un.refl:Un fs ex H H h h:=Un.kept fun _ _ q=>q
theorem Un.laid(k:∀b u,h.get? b=some u→h'.get? b=some u)(hp:h.objs.size≤a)(hn:H a=none):Un fs ex H (upd H a o) h h' where
 keep:=fun b u q _ _ _=>k b u q
 slot:=fun b u q _ _ _=>⟨u.slots,k b u q⟩
 free:=fun b u q n _=>by rw [a_5 (Nat.ne_of_lt (Nat.lt_of_lt_of_le (Heap.lt_size q) hp))];exact n
 there:=fun b u q _=>⟨u,k b u q⟩
 tups:=fun b xs q=>by rw [a_5 (b_9 q hn)];exact q
 frzs:=fun b u xs q=>by rw [a_5 (b_9 q hn)];exact q
 tbls:=fun b ps q=>⟨#[],by rw [a_5 (b_9 q hn),q];simp⟩
theorem Un.write(mu:Mut (H x))(he:e=x∨H e=some (.own x))(k:∀b u,b≠e→h.get? b=some u→h'.get? b=some u)(heo:∃u,h'.get? e=some u):Un fs ex H (upd H x o) h h':=by
 have hx:∀b,H b=none→b≠x:=fun b n z=>by subst z;rw [n] at mu;exact mu
 have hb:∀b,H b=none→b≠e:=fun b n z=>by
  subst z;rcases he with r|r
  ·exact hx b n r
  ·rw [n] at r;cases r
 have hm:∀b u,H b=some u→¬Mut (some u)→b≠x:=fun b u q nm z=>by subst z;rw [q] at mu;exact nm mu
 refine⟨fun b u q n _ _=>k b u (hb b n) q,fun b u q n _ _=>⟨u.slots,k b u (hb b n) q⟩,fun b u q n _=>by rw [a_5 (hx b n)];exact n,fun b u q _=> ?_,
  fun b xs q=>by rw [a_5 (hm b _ q fun z=>z)];exact q,fun b u xs q=>by rw [a_5 (hm b _ q fun z=>z)];exact q,fun b ps q=>⟨#[],by rw [a_5 (hm b _ q fun z=>z),q];simp⟩⟩
 by_cases hbe:b=e
 ·subst hbe;exact heo
 ·exact⟨u,k b u hbe q⟩
end
def trk(h:Heap)(H:Hp):List Addr:=(List.range h.objs.size).filter fun a=>(H a).isSome
def hidT(h:Heap)(H:Hp):Heap:=hideAll h (trk h H)
theorem cb_9(h:Heap)(H:Hp):(hidT h H).objs.size=h.objs.size:=hideAll_size _ _
theorem ch_9{h:Heap}{H:Hp}{b:Addr}{o:Obj}(e:h.get? b=some o)(n:H b=none):(hidT h H).get? b=some o:=
 hideAll_get _ e fun hm=>by
  have q:(H b).isSome=true:=(List.mem_filter.mp hm).2;rw [n] at q;simp at q
theorem cs_6{h:Heap}{H:Hp}{b:Addr}{o:Obj}(e:(hidT h H).get? b=some o):h.get? b=some o∧H b=none:=by
 have e':h.get? b=some o:=of_hideAll (trk h H) e;refine⟨e', ?_⟩;cases q:H b with
 |none=>rfl
 |some x=>
  have hm:b∈trk h H:=List.mem_filter.mpr ⟨List.mem_range.mpr (Heap.lt_size e'),by simp [q]⟩;have z:(hidT h H).get? b=none:=hideAll_none (trk h H) hm;rw [z] at e;cases e
def cs_7(g h:Heap)(L:Addr):List (Addr×Obj):=(List.range h.objs.size).filterMap fun a=>if a=L∨(g.get? a).isSome=true then none else(h.get? a).map fun o=>(a,o)
def rest(g h:Heap)(L d:Addr):List (Addr×Obj):=(cs_7 g h L).filter fun p=>decide (p.1≠d)
structure Mod(K:Frag)(mg:Str→Option Value)(base:Heap):Prop where
 kin:K.In base
 glob:base.Ns mainGlobals mg
 blt:∃mb,base.Ns builtinsNs mb∧∀x:Str,x≠ "__name__" →mb x=bootBuiltins x
 nolimit:base.NoLimit
structure Cx where
 prog:Program
 w:World
 K:Frag
 mg:Str→Option Value
 base:Heap
 A:Around
 N:List Str
 s₀:Shared
 H₀:Hp
 env:Env
 outer:List Env
 stack:List Env
 ex:List Addr
 fn:Str→Bool
 calm:Bool
 pn:List (Addr×Obj)
 xe:Value→Shared→Prop
def frs(l:List Env):List Addr:=l.filterMap (·.frame)
abbrev Cx.fs(X:Cx):List Addr:=frs X.outer
def Vis(sc:Scope)(x:Str):Prop:=sc.names.lookup x=some .local∨sc.names.lookup x=some .cell∨sc.names.lookup x=some .free
def Loc(sc:Scope)(x:Str):Prop:=sc.names.lookup x=some .local∨sc.names.lookup x=some .cell
def Look(env:Env)(h:Heap)(m:Str→Option Value)(x:Str)(u:Value):Prop:=
 (env.kindOf x=some .local∧m x=some u)∨((env.kindOf x=some .cell∨env.kindOf x=some .free)∧∃c,env.cells.lookup x=some c∧h.IsCell c (some u))
structure Cx.Ok(X:Cx):Prop where
 mod:Mod X.K X.mg X.base
 kind:X.env.scope.kind= .function
 glob:X.env.globals=mainGlobals
 blt:X.env.builtins=builtinsNs
 above:X.s₀.heap.objs.size≤X.env.locals
 inj:∀x y c,X.env.cells.lookup x=some c→X.env.cells.lookup y=some c→x=y
 has:∀x,(X.env.kindOf x=some .cell∨X.env.kindOf x=some .free)→∃c,X.env.cells.lookup x=some c
 cab:∀x c,X.fn x=true→X.env.cells.lookup x=some c→X.s₀.heap.objs.size≤c
 hd:X.calm=true→X.A.handled=none
 frames:X.A.frames=some X.stack
 stk:X.stack=X.outer∨(X.stack=X.env::X.outer∧X.env.frame=some X.env.locals)
 exf:∀b∈X.ex,b≠X.env.locals∧∀x c,X.env.cells.lookup x=some c→c≠b
 bs:∀b o,X.base.get? b=some o→X.s₀.heap.get? b=some o∧X.H₀ b=none
 bsz:X.base.objs.size≤X.s₀.heap.objs.size
 noex:∀b o,X.base.get? b=some o→b∉X.ex
 exfs:∀b∈X.ex,b∉X.fs
 funs:X.s₀.heap.FunFrames X.base X.outer
 frf:∀b∈X.fs,X.H₀ b=none
structure Inv(X:Cx)(zd:List (Addr×Obj))(σ:List (Option V))(H:Hp)(s:Shared):Prop where
 ok:X.Ok
 os:s.os=X.s₀.os
 bare:AllBare s.gens
 base:Un X.fs X.ex X.H₀ H X.s₀.heap s.heap
 loc:∃m,s.heap.Ns X.env.locals m∧∀(i:Nat) (x:Str) (v:V),X.N[i]? =some x→σ[i]? =some (some v)→Vis X.env.scope x→∃u,RelV v u∧Look X.env s.heap m x u
 cell:∀x c,X.env.cells.lookup x=some c→∃v,s.heap.IsCell c v
 free:H X.env.locals=none
 freeC:∀x c,X.env.cells.lookup x=some c→H c=none
 pin:∀p∈X.pn ++ zd,s.heap.get? p.1=some p.2∧H p.1=none∧p.1≠X.env.locals∧p.1∉X.fs∧∀v,p.2.data≠ .cell v
 hok:HOk X.prog X.w H s.heap
 len:σ.length=X.N.length
section
variable{X:Cx}{zd:List (Addr×Obj)}{σ:List (Option V)}{H H':Hp}{s:Shared}{h':Heap}
theorem Cx.Ok.nofr(ok:X.Ok){b:Addr}{o:Obj}(e:X.base.get? b=some o):b∉X.fs:=fun hb=>by
 have:=(ok.funs.mem hb).1;rw [e] at this;cases this
theorem Inv.bs(I:Inv X zd σ H s):∀b o,X.base.get? b=some o→s.heap.get? b=some o∧H b=none:=fun b o e=>
 ⟨I.base.keep b o (I.ok.bs b o e).1 (I.ok.bs b o e).2 (I.ok.nofr e) (I.ok.noex b o e),I.base.free b o (I.ok.bs b o e).1 (I.ok.bs b o e).2 (I.ok.noex b o e)⟩
theorem Inv.bk(I:Inv X zd σ H s):∀b o,X.base.get? b=some o→s.heap.get? b=some o:=fun b o e=>(I.bs b o e).1
theorem Inv.mod(I:Inv X zd σ H s):Mod X.K X.mg X.base:=I.ok.mod
theorem Inv.kIn(I:Inv X zd σ H s):X.K.In s.heap:=I.ok.mod.kin.keeps I.bk
theorem Inv.nolimit(I:Inv X zd σ H s):s.heap.NoLimit:=I.ok.mod.nolimit.keeps I.bk
theorem Inv.fr(I:Inv X zd σ H s):∃m,Fr X.base X.env.locals s.heap m:=
 let⟨m,hn,_⟩:=I.loc
 ⟨m,hn,I.bk,Nat.le_trans I.ok.bsz I.ok.above⟩
theorem Inv.lt(I:Inv X zd σ H s):X.env.locals < s.heap.objs.size:=let⟨_,hn,_⟩:=I.loc;hn.lt
theorem Inv.sz(I:Inv X zd σ H s):X.s₀.heap.objs.size≤s.heap.objs.size:=Nat.le_trans I.ok.above (Nat.le_of_lt I.lt)
theorem Inv.nofs(I:Inv X zd σ H s){a:Addr}(h:s.heap.objs.size≤a):a∉X.fs:=fun hb=>by
 obtain⟨_,o,ho,_⟩:=I.ok.funs.mem hb;exact absurd (Nat.lt_of_lt_of_le (Heap.lt_size ho) (Nat.le_trans I.sz h)) (Nat.lt_irrefl _)
theorem Inv.cne(I:Inv X zd σ H s):∀x c,X.env.cells.lookup x=some c→c≠X.env.locals:=fun x c e z=>by
 obtain⟨v,o,ho,hd⟩:=I.cell x c e;obtain⟨m,⟨o',es,ep,ho',hd',_⟩,_⟩:=I.loc;rw [z,ho'] at ho;cases ho;rw [hd'] at hd;cases hd
theorem Inv.funs(I:Inv X zd σ H s):s.heap.FunFrames X.base X.outer:=by
 have all:∀(l:List Env),(∀b∈frs l,b∈X.fs)→X.s₀.heap.FunFrames X.base l→s.heap.FunFrames X.base l:=by
  intro l
  induction l with
  |nil=>intro _ _;trivial
  |cons env r ih=>
   intro hs hl;obtain⟨hk,⟨L,o,hf,hn,ho,hd⟩,hr⟩:=hl;have hL:L∈X.fs:=hs L (by unfold frs;rw [List.filterMap_cons,hf];exact List.mem_cons_self);obtain⟨sl,e⟩:=I.base.slot L o ho (I.ok.frf L hL) hL fun z=>I.ok.exfs L z hL;exact⟨hk,⟨L,_,hf,hn,e,hd⟩,ih (fun b hb=>hs b (by unfold frs;rw [List.filterMap_cons,hf];exact List.mem_cons_of_mem _ hb)) hr⟩
 exact all X.outer (fun _ hb=>hb) I.ok.funs
theorem Inv.stack(I:Inv X zd σ H s):s.heap.FunFrames X.base X.stack:=by
 rcases I.ok.stk with e|⟨e,hf⟩
 ·rw [e];exact I.funs
 ·rw [e];obtain⟨m,hn,_⟩:=I.loc;refine .cons (by rw [I.ok.kind];decide) hf hn ?_ I.funs;exact Heap.get?_none_of_le (Nat.le_trans I.ok.bsz I.ok.above)
theorem Inv.stkSub(I:Inv X zd σ H s):∀b∈frs X.stack,b∈X.env.locals::X.fs:=fun b hb=>by
 rcases I.ok.stk with e|⟨e,hf⟩
 ·rw [e] at hb;exact List.mem_cons_of_mem _ hb
 ·rw [e] at hb;unfold frs at hb;rw [List.filterMap_cons,hf] at hb;exact hb
theorem Inv.stkFree(I:Inv X zd σ H s):∀b∈frs X.stack,H b=none:=fun b hb=>by
 rcases List.mem_cons.mp (I.stkSub b hb) with e|hb
 ·rw [e];exact I.free
 ·obtain⟨_,o,ho,_⟩:=I.ok.funs.mem hb;exact I.base.free b o ho (I.ok.frf b hb) fun z=>I.ok.exfs b z hb
theorem Inv.step{g':Array GenState}{t':Nat}{d':Drawn}{ch:List Addr}(I:Inv X zd σ H s)
  (hch:∀b∈ch,(b∈X.ex∨X.s₀.heap.objs.size≤b)∧b≠X.env.locals∧(∀x c,X.env.cells.lookup x=some c→c≠b)∧∀p∈X.pn ++ zd,p.1≠b)
  (keep:∀b o,b≠X.env.locals→b∉X.fs→b∉ch→s.heap.get? b=some o→H b=none→h'.get? b=some o)
  (slot:∀b o,b≠X.env.locals→b∈X.fs→b∉ch→s.heap.get? b=some o→H b=none→∃sl,h'.get? b=some {o with slots:=sl}) (free:∀b o,b∉ch→s.heap.get? b=some o→H b=none→H' b=none)
  (there:∀b o,b∉ch→s.heap.get? b=some o→∃o',h'.get? b=some o')
  (tups:∀b xs,H b=some (.tup xs)→H' b=some (.tup xs)) (frzs:∀b o u,H b=some (.frz o u)→H' b=some (.frz o u)) (tbls:∀b ps,H b=some (.tbl ps)→∃more,H' b=some (.tbl (ps ++ more)))
  (ns:∀m,s.heap.Ns X.env.locals m→h'.Ns X.env.locals m) (hok:HOk X.prog X.w H' h') (hg:AllBare g'):
  Inv X zd σ H' {s with heap:=h',gens:=g',drawn:=d',toks:=t'}:=by
 have neL:∀b o,X.s₀.heap.get? b=some o→b≠X.env.locals:=fun b o e=>Nat.ne_of_lt (Nat.lt_of_lt_of_le (Heap.lt_size e) I.ok.above);have neC:∀b o,X.s₀.heap.get? b=some o→b∉X.ex→b∉ch:=fun b o e hx hb=>by
  rcases(hch b hb).1 with z|z
  ·exact hx z
  ·exact absurd (Nat.lt_of_lt_of_le (Heap.lt_size e) z) (Nat.lt_irrefl _)
 have cellK:∀x c,X.env.cells.lookup x=some c→∀v,s.heap.IsCell c v→h'.IsCell c v:=fun x c e v ⟨o,ho,hd⟩=>by
  have nch:c∉ch:=fun z=>(hch c z).2.2.1 x c e rfl
  by_cases hc:c∈X.fs
  ·obtain⟨sl,q⟩:=slot c o (I.cne x c e) hc nch ho (I.freeC x c e);exact⟨_,q,hd⟩
  ·exact⟨o,keep c o (I.cne x c e) hc nch ho (I.freeC x c e),hd⟩
 refine⟨I.ok,I.os,hg,⟨fun b o e n hb hx=> ?_,fun b o e n hb hx=> ?_,fun b o e n hx=> ?_,fun b o e hx=> ?_,fun b xs e=>tups b xs (I.base.tups b xs e),fun b o xs e=>frzs b o xs (I.base.frzs b o xs e),fun b ps e=> ?_⟩, ?_,fun x c e=> ?_, ?_,fun x c e=> ?_,fun p hp=> ?_,hok,I.len⟩
 ·exact keep b o (neL b o e) hb (neC b o e hx) (I.base.keep b o e n hb hx) (I.base.free b o e n hx)
 ·obtain⟨sl,e1⟩:=I.base.slot b o e n hb hx;obtain⟨sl',e2⟩:=slot b _ (neL b o e) hb (neC b o e hx) e1 (I.base.free b o e n hx);exact⟨sl',e2⟩
 ·obtain⟨o',e1⟩:=I.base.there b o e hx;exact free b o' (neC b o e hx) e1 (I.base.free b o e n hx)
 ·obtain⟨o',e1⟩:=I.base.there b o e hx;exact there b o' (neC b o e hx) e1
 ·obtain⟨m1,e1⟩:=I.base.tbls b ps e;obtain⟨m2,e2⟩:=tbls b _ e1;exact⟨m1 ++ m2,by rw [e2,Array.append_assoc]⟩
 ·obtain⟨m,hn,hl⟩:=I.loc;refine⟨m,ns m hn,fun i x v e1 e2 e3=> ?_⟩;obtain⟨u,r,l⟩:=hl i x v e1 e2 e3;refine⟨u,r, ?_⟩;rcases l with l|⟨k,c,e,z⟩
  ·exact .inl l
  ·exact .inr ⟨k,c,e,cellK x c e _ z⟩
 ·obtain⟨v,z⟩:=I.cell x c e;exact⟨v,cellK x c e v z⟩
 ·obtain⟨m,⟨o,_,_,ho,_⟩,_⟩:=I.loc;exact free _ o (fun z=>(hch _ z).2.1 rfl) ho I.free
 ·obtain⟨v,o,ho,hd⟩:=I.cell x c e;exact free c o (fun z=>(hch c z).2.2.1 x c e rfl) ho (I.freeC x c e)
 ·obtain⟨e,n,ne,nf,d⟩:=I.pin p hp;have nch:p.1∉ch:=fun z=>(hch p.1 z).2.2.2 p hp rfl;exact⟨keep p.1 p.2 ne nf nch e n,free p.1 p.2 nch e n,ne,nf,d⟩
theorem Inv.un{t':Nat}(I:Inv X zd σ H s)(u:Un X.fs [] H H' s.heap h')(hok:HOk X.prog X.w H' h'):Inv X zd σ H' {s with heap:=h',toks:=t'}:=by
 obtain⟨m,⟨o,es,ep,ho,r⟩,_⟩:=id I.loc;obtain⟨sl,hL⟩:=u.any ho I.free (by simp);exact I.step (g':=s.gens) (d':=s.drawn) (ch:= []) (fun _ z=>nomatch z) (fun b o _ hb _ e n=>u.keep b o e n hb (by simp)) (fun b o _ hb _ e n=>u.slot b o e n hb (by simp)) (fun b o _ e n=>u.free b o e n (by simp)) (fun b o _ e=>u.there b o e (by simp)) u.tups u.frzs u.tbls (fun m' hm=>by
  obtain⟨o',es',ep',ho',r'⟩:=hm;rw [ho] at ho';cases ho';exact⟨_,es',ep',hL,r'⟩) hok I.bare
theorem Inv.call{g':Array GenState}{t':Nat}{d':Drawn}{ch:List Addr}(I:Inv X zd σ H s)(u:Un (frs X.stack) ch H H' s.heap h')(hok:HOk X.prog X.w H' h')(hg:AllBare g')
  (hch:∀b∈ch,(b∈X.ex∨X.s₀.heap.objs.size≤b)∧b≠X.env.locals∧(∀x c,X.env.cells.lookup x=some c→c≠b)∧∀p∈X.pn ++ zd,p.1≠b):
  Inv X zd σ H' {s with heap:=h',gens:=g',drawn:=d',toks:=t'}:=by
 obtain⟨m,⟨o,es,ep,ho,r⟩,_⟩:=id I.loc;obtain⟨sl,hL⟩:=u.any ho I.free fun z=>(hch _ z).2.1 rfl;exact I.step (ch:=ch) hch (fun b o hL hb hc e n=>u.keep b o e n (fun z=>(List.mem_cons.mp (I.stkSub b z)).elim hL hb) hc) (fun b o _ _ hc e n=>u.any e n hc) (fun b o hc e n=>u.free b o e n hc) (fun b o hc e=>u.there b o e hc) u.tups u.frzs u.tbls (fun m' hm=>by
  obtain⟨o',es',ep',ho',r'⟩:=hm;rw [ho] at ho';cases ho';exact⟨_,es',ep',hL,r'⟩) hok hg
theorem Inv.turned{t':Nat}{it:Addr}(I:Inv X zd σ H s)(k:∀b o,b≠it→s.heap.get? b=some o→h'.get? b=some o)(hn:H it=none)(hL:it≠X.env.locals)
  (h1:it∈X.ex∨X.s₀.heap.objs.size≤it) (h2:∀x c,X.env.cells.lookup x=some c→c≠it) (h3:∀p∈X.pn ++ zd,p.1≠it):Inv X zd σ H {s with heap:=h',toks:=t'}:=by
 have nit:∀b u,H b=some u→b≠it:=fun b u e z=>by rw [z,hn] at e;cases e
 refine I.step (g':=s.gens) (d':=s.drawn) (ch:= [it]) (fun b hb=> ?_) (fun b o _ _ hc e _=>k b o (fun z=>hc (by simp [z])) e) (fun b o _ _ hc e _=>⟨o.slots,k b o (fun z=>hc (by simp [z])) e⟩) (fun _ _ _ _ n=>n)
  (fun b o hc e=>⟨o,k b o (fun z=>hc (by simp [z])) e⟩) (fun _ _ e=>e) (fun _ _ _ e=>e) (fun b ps e=>⟨#[],by rw [e];simp⟩) (fun m hm=> ?_) (fun b u e=> ?_) I.bare
 ·have e:b=it:=by simpa using hb
  subst e;exact⟨h1,hL,h2,h3⟩
 ·obtain⟨o,es,ep,ho,r⟩:=hm;exact⟨o,es,ep,k _ o (Ne.symm hL) ho,r⟩
 ·refine(I.hok b u e).stay (fun c v hc q=>k c v ?_ q) (fun _ q=>q) fun _ _ q=>q;rcases hc with z|z
  ·rw [z];exact nit b u e
  ·exact nit c _ z
theorem Inv.tok(I:Inv X zd σ H s)(t:Nat):Inv X zd σ H {s with toks:=t}:=I.un (h':=s.heap) (t':=t) Un.refl I.hok
theorem Inv.kept{t':Nat}(I:Inv X zd σ H s)(k:∀b u,s.heap.get? b=some u→h'.get? b=some u):Inv X zd σ H {s with heap:=h',toks:=t'}:=I.un (Un.kept k) (I.hok.kept k)
theorem Inv.laid{a:Addr}{o:HO}{t':Nat}(I:Inv X zd σ H s)(k:∀b u,s.heap.get? b=some u→h'.get? b=some u)(hp:s.heap.objs.size≤a)(new:ObjOk X.prog X.w (upd H a o) h' a o):
  Inv X zd σ (upd H a o) {s with heap:=h',toks:=t'}:=I.un (Un.laid k hp (I.hok.fresh hp)) (I.hok.laid k hp new)
theorem Inv.write{x e:Addr}{o:HO}{t':Nat}(I:Inv X zd σ H s)(mu:Mut (H x))(he:e=x∨H e=some (.own x))(k:∀b u,b≠e→s.heap.get? b=some u→h'.get? b=some u)(heo:∃u,h'.get? e=some u)
  (new:ObjOk X.prog X.w (upd H x o) h' x o):Inv X zd σ (upd H x o) {s with heap:=h',toks:=t'}:=I.un (Un.write mu he k heo) (I.hok.write mu he k heo new)
theorem Inv.pins_of{ai:List (Addr×Obj)}(I:Inv X zd σ H s)(h:∀p∈ai,s.heap.get? p.1=some p.2∧H p.1=none∧p.1≠X.env.locals∧p.1∉X.fs∧∀v,p.2.data≠ .cell v):Inv X ai σ H s:=
 ⟨I.ok,I.os,I.bare,I.base,I.loc,I.cell,I.free,I.freeC,fun p hp=>(List.mem_append.mp hp).elim (fun z=>I.pin p (List.mem_append_left _ z)) (h p),I.hok,I.len⟩
theorem ao_3{N:List Str}(hN:N.Nodup){i j:Nat}{x:Str}(a:N[i]? =some x)(b:N[j]? =some x):i=j:=by
 obtain⟨h1,e1⟩:=List.getElem?_eq_some_iff.mp a;obtain⟨h2,e2⟩:=List.getElem?_eq_some_iff.mp b;exact(List.getElem_inj hN).mp (e1.trans e2.symm)
theorem aw_0{M:Model}{A:Around}{E:Value→Shared→Prop}{i:Nat}{x:Str}{v:V}{u:Value}{Q:Unit→Shared→Prop}(I:Inv X zd σ H s)(hN:X.N.Nodup)(hi:X.N[i]? =some x)(hx:Loc X.env.scope x)(r:RelV v u)
  (h:∀s',Inv X zd (σ.set i (some v)) H s'→(∃a,Heap.SameBut a s.heap s'.heap∧(a=X.env.locals∨X.env.cells.lookup x=some a))→Q () s') (hf:X.fn x=true∨X.env.scope.names.lookup x=some .local:=by first|exact .inl rfl|exact .inr rfl|assumption):wpAny M A (storeName X.env x u) Q E s:=by
 obtain⟨m,hn,hl⟩:=id I.loc;have ck:(X.env.scope.kind == .class || (X.env.scope.kind == .module && X.env.locals != X.env.globals))=false:=by rw [I.ok.kind];rfl
 have hiσ:i < σ.length:=by rw [I.len];exact(List.getElem?_eq_some_iff.mp hi).1
 have cne:=I.cne;have tracked:∀{a:Addr} {h':Heap},(∃o,s.heap.get? a=some o∧H a=none)→Heap.SameBut a s.heap h'→HOk X.prog X.w H h':=fun{a h'} ha hs b ob e=>by
  obtain⟨_,_,ak⟩:=ha;refine(I.hok b ob e).stay (fun c w' hc q=>(hs.2 c ?_).trans q) (fun _ q=>q) fun _ _ q=>q
  rintro rfl
  rcases hc with rfl|hc
  ·rw [ak] at e;cases e
  ·rw [ak] at hc;cases hc
 rcases hx with hk|hk
 ·refine wpAny_storeName_local hk hn (fun h' hn' hs=> ?_) ck;obtain⟨oL,_,_,hoL,_⟩:=id hn;refine h _ ⟨I.ok,I.os,I.bare,⟨fun b o e n hb hx=> ?_,fun b o e n hb hx=> ?_,I.base.free,fun b o e hx=> ?_,I.base.tups,I.base.frzs,I.base.tbls⟩,⟨_,hn',fun j y v' e1 e2 e3=> ?_⟩,fun y c e=> ?_,I.free,I.freeC,fun p hp=> ?_,tracked ⟨oL,hoL,I.free⟩ hs,by simpa using I.len⟩ ⟨_,hs, .inl rfl⟩
  ·exact(hs.2 b (Nat.ne_of_lt (Nat.lt_of_lt_of_le (Heap.lt_size e) I.ok.above))).trans (I.base.keep b o e n hb hx)
  ·obtain⟨sl,e1⟩:=I.base.slot b o e n hb hx;exact⟨sl,(hs.2 b (Nat.ne_of_lt (Nat.lt_of_lt_of_le (Heap.lt_size e) I.ok.above))).trans e1⟩
  ·obtain⟨o',e1⟩:=I.base.there b o e hx;exact⟨o',(hs.2 b (Nat.ne_of_lt (Nat.lt_of_lt_of_le (Heap.lt_size e) I.ok.above))).trans e1⟩
  ·by_cases hj:j=i
   ·subst hj;rw [hi] at e1;cases e1;rw [List.getElem?_set_self hiσ] at e2;cases e2;exact⟨u,r, .inl ⟨hk,by simp⟩⟩
   ·rw [List.getElem?_set_ne (Ne.symm hj)] at e2;obtain⟨u',r',q⟩:=hl j y v' e1 e2 e3;refine⟨u',r', ?_⟩;rcases q with⟨k,e⟩|⟨k,c,e,z⟩
    ·refine .inl ⟨k, ?_⟩;have:y≠x:=fun e=>hj (ao_3 hN e1 (e▸hi));simp [this,e]
    ·exact .inr ⟨k,c,e,z.sameBut hs (cne y c e)⟩
  ·obtain⟨w',z⟩:=I.cell y c e;exact⟨w',z.sameBut hs (cne y c e)⟩
  ·obtain⟨e,n,ne,nf,d⟩:=I.pin p hp;exact⟨(hs.2 p.1 ne).trans e,n,ne,nf,d⟩
 ·have hfn:X.fn x=true:=by
   rcases hf with z|z
   ·exact z
   ·rw [z] at hk;cases hk
  obtain⟨c,hc⟩:=I.ok.has x (.inl hk);obtain⟨w',z⟩:=I.cell x c hc;refine wpAny_storeName_cell I.ok.kind hk hc z (fun h' hc' hs=> ?_);obtain⟨oc,hoc,fu⟩:=id z;refine h {s with heap:=h'} ⟨I.ok,I.os,I.bare,⟨fun b o e n hb hx=> ?_,fun b o e n hb hx=> ?_,I.base.free,fun b o e hx=> ?_,I.base.tups,I.base.frzs,I.base.tbls⟩,⟨m,hn.sameBut hs (Ne.symm (cne x c hc)),fun j y v' e1 e2 e3=> ?_⟩,fun y c' e=> ?_,I.free,I.freeC,fun p hp=> ?_,tracked ⟨oc,hoc,I.freeC x c hc⟩ hs,by simpa using I.len⟩ ⟨c,hs, .inr hc⟩
  ·exact(hs.2 b (Nat.ne_of_lt (Nat.lt_of_lt_of_le (Heap.lt_size e) (I.ok.cab x c hfn hc)))).trans (I.base.keep b o e n hb hx)
  ·obtain⟨sl,e1⟩:=I.base.slot b o e n hb hx;exact⟨sl,(hs.2 b (Nat.ne_of_lt (Nat.lt_of_lt_of_le (Heap.lt_size e) (I.ok.cab x c hfn hc)))).trans e1⟩
  ·obtain⟨o',e1⟩:=I.base.there b o e hx;exact⟨o',(hs.2 b (Nat.ne_of_lt (Nat.lt_of_lt_of_le (Heap.lt_size e) (I.ok.cab x c hfn hc)))).trans e1⟩
  ·by_cases hj:j=i
   ·subst hj;rw [hi] at e1;cases e1;rw [List.getElem?_set_self hiσ] at e2;cases e2;exact⟨u,r, .inr ⟨.inl hk,c,hc,hc'⟩⟩
   ·rw [List.getElem?_set_ne (Ne.symm hj)] at e2;obtain⟨u',r',q⟩:=hl j y v' e1 e2 e3;refine⟨u',r', ?_⟩;rcases q with q|⟨k,c',e,z'⟩
    ·exact .inl q
    ·refine .inr ⟨k,c',e,z'.sameBut hs ?_⟩
     rintro rfl
     exact hj (ao_3 hN e1 (I.ok.inj _ _ _ e hc▸hi))
  ·by_cases hcc:c'=c
   ·subst hcc;exact⟨_,hc'⟩
   ·obtain⟨w2,z2⟩:=I.cell y c' e;exact⟨w2,z2.sameBut hs hcc⟩
  ·obtain⟨e,n,ne,nf,d⟩:=I.pin p hp;refine⟨(hs.2 p.1 ?_).trans e,n,ne,nf,d⟩;intro q;rw [q,hoc] at e;have q':oc=p.2:=Option.some.inj e;exact d w' (by rw [←q'];exact fu)
theorem ao_4{M:Model}{A:Around}{E:Value→Shared→Prop}{i:Nat}{x:Str}{v:V}{u:Value}{Q:Unit→Shared→Prop}(I:Inv X zd σ H s)(hN:X.N.Nodup)(hi:X.N[i]? =some x)(hx:Loc X.env.scope x)(r:RelV v u)
  (h:∀s',Inv X zd (σ.set i (some v)) H s'→Q () s') (hf:X.fn x=true∨X.env.scope.names.lookup x=some .local:=by first|exact .inl rfl|exact .inr rfl|assumption):wpAny M A (storeName X.env x u) Q E s:=
 aw_0 I hN hi hx r (fun s' I' _=>h s' I') hf
theorem Inv.call'{s':Shared}{ch:List Addr}(I:Inv X zd σ H s)(ho:s'.os=s.os)(u:Un (frs X.stack) ch H H' s.heap s'.heap)(hok:HOk X.prog X.w H' s'.heap)(hg:AllBare s'.gens)
  (hch:∀b∈ch,(b∈X.ex∨X.s₀.heap.objs.size≤b)∧b≠X.env.locals∧(∀x c,X.env.cells.lookup x=some c→c≠b)∧∀p∈X.pn ++ zd,p.1≠b):Inv X zd σ H' s':=by
 obtain⟨h',g',d',t',o'⟩:=s';have e:o'=s.os:=ho;subst e;exact I.call (g':=g') (t':=t') (d':=d') u hok hg hch
end
abbrev XK:=Value→Option Addr→Hp→Prop
abbrev St:=List (Option V)
abbrev VK:=V→Hp→Prop
abbrev TE:=St→Hp→VK→Prop
abbrev TT:=St→Hp→(Bool→Hp→Prop)→Prop
abbrev TA:=St→Hp→(List V→Hp→Prop)→Prop
structure Ends where
 nx:St→Hp→Prop
 rt:VK
 bk:St→Hp→Prop:=fun _ _=>False
 ct:St→Hp→Prop:=fun _ _=>False
abbrev TS:=Ends→St→Hp→Prop
def EP(X:Cx)(zd:List (Addr×Obj))(σ:St)(Q:VK)(u:Value)(s':Shared):Prop:=∃v H',Inv X zd σ H' s'∧RelV v u∧Q v H'
def TP(X:Cx)(zd:List (Addr×Obj))(σ:St)(Q:Bool→Hp→Prop)(b:Bool)(s':Shared):Prop:=∃H',Inv X zd σ H' s'∧Q b H'
def AP(X:Cx)(zd:List (Addr×Obj))(σ:St)(Q:List V→Hp→Prop)(us:List Value)(s':Shared):Prop:=∃vs H',Inv X zd σ H' s'∧Vals vs us∧Q vs H'
def SP(X:Cx)(zd:List (Addr×Obj))(D:Ends)(f:Flow)(s':Shared):Prop:=
 match f with
 | .next=>∃σ' H',Inv X zd σ' H' s'∧D.nx σ' H'
 | .brk=>∃σ' H',Inv X zd σ' H' s'∧D.bk σ' H'
 | .cont=>∃σ' H',Inv X zd σ' H' s'∧D.ct σ' H'
 | .ret u=>∃v σ' H',Inv X zd σ' H' s'∧RelV v u∧D.rt v H'
def PE(X:Cx)(e:Expr)(t:TE):Prop:=
 ∀(zd:List (Addr×Obj)) (s:Shared) (σ:St) (H:Hp) (Q:VK),Inv X zd σ H s→t σ H Q→wpAny (model X.prog X.w) X.A (eval e X.env) (EP X zd σ Q) X.xe s
def PT(X:Cx)(e:Expr)(t:TT):Prop:=
 ∀(zd:List (Addr×Obj)) (s:Shared) (σ:St) (H:Hp) (Q:Bool→Hp→Prop),Inv X zd σ H s→t σ H Q→wpAny (model X.prog X.w) X.A (isTrue e X.env (eval e X.env)) (TP X zd σ Q) X.xe s
def PW(X:Cx)(e:Expr)(t:TT):Prop:=
 ∀(whole:Sem Value) (zd:List (Addr×Obj)) (s:Shared) (σ:St) (H:Hp) (Q:Bool→Hp→Prop),Inv X zd σ H s→t σ H Q→wpAny (model X.prog X.w) X.A (isTrue e X.env whole) (TP X zd σ Q) X.xe s
theorem PW.pt{X:Cx}{e:Expr}{t:TT}(h:PW X e t):PT X e t:=h _
def PA(X:Cx)(es:List Expr)(t:TA):Prop:=
 ∀(pos:Pos) (zd:List (Addr×Obj)) (s:Shared) (σ:St) (H:Hp) (Q:List V→Hp→Prop),Inv X zd σ H s→t σ H Q→wpAny (model X.prog X.w) X.A (spliced (backTo pos (starEach es X.env))) (AP X zd σ Q) X.xe s
def PS(X:Cx)(st:Stmt)(t:TS):Prop:=
 ∀(zd:List (Addr×Obj)) (s:Shared) (σ:St) (H:Hp) (D:Ends),Inv X zd σ H s→t D σ H→wpAny (model X.prog X.w) X.A (exec st X.env) (SP X zd D) X.xe s
def PSs(X:Cx)(st:List Stmt)(t:TS):Prop:=
 ∀(zd:List (Addr×Obj)) (s:Shared) (σ:St) (H:Hp) (D:Ends),Inv X zd σ H s→t D σ H→wpAny (model X.prog X.w) X.A (execs st X.env) (SP X zd D) X.xe s
theorem thn{α:Type}{t:Sem α}{Q Q':α→Shared→Prop}{M:Model}{A:Around}{E:Value→Shared→Prop}{s:Shared}(h:wpAny M A t Q E s)(hQ:∀a s,Q a s→Q' a s):wpAny M A t Q' E s:=wpAny_mono h hQ fun _ _ x=>x
section
variable{X:Cx}
def tVar(i:Nat):TE:=fun σ H Q=>∃v,σ[i]? =some (some v)∧Q v H
def tC(v:V):TE:=fun _ H Q=>Q v H
theorem j_7{i:Nat}{x:Str}{pos:Pos}(hN:X.N[i]? =some x)(hv:Vis X.env.scope x)(hd:(x ==("__debug__" :Str))=false:=by decide)(hcd:(x ==("__classdict__" :Str))=false:=by decide):PE X (.Name x pos) (tVar i):=by
 intro zd s σ H Q I h;obtain⟨v,e,h⟩:=h;obtain⟨m,hn,hl⟩:=I.loc;obtain⟨u,r,l⟩:=hl i x v hN e hv;have fin:EP X zd σ Q u s:=⟨v,H,I,r,h⟩;rcases l with⟨hk,hm⟩|⟨hk,c,hc,hcell⟩
 ·exact wpAny_Name (wpAny_loadName_local I.ok.kind hk hn hm fin) hd
 ·rcases hk with hk|hk
  ·exact wpAny_Name (wpAny_loadName_cell I.ok.kind hk hc hcell fin) hd
  ·exact wpAny_Name (wpAny_loadName_free I.ok.kind hk hc hcell fin hcd) hd
theorem dd_5{i j pos}:PE X (.Constant (.int i) j pos) (tC (.int i)):=fun _ _ _ H _ I h=>wpAny_Constant_int ⟨.int i,H,I.tok _,⟨_,rfl⟩,h⟩
theorem dl_5{b j pos}:PE X (.Constant (.bool b) j pos) (tC (.bl b)):=fun _ _ _ H _ I h=>Constant_bool ⟨.bl b,H,I,rfl,h⟩
theorem dd_6{j pos}:PE X (.Constant .none j pos) (tC .non):=fun _ _ _ H _ I h=>Constant_none ⟨.non,H,I,rfl,h⟩
theorem dd_7{x j pos}:PE X (.Constant (.str x) j pos) (tC (.str x)):=fun _ _ _ H _ I h=>Calls.Constant_str ⟨.str x,H,I.tok _,⟨_,rfl⟩,h⟩
def Gl(X:Cx)(x:Str):Prop:=X.env.kindOf x=some .globalImplicit
theorem q_8{E:Value→Shared→Prop}{zd:List (Addr×Obj)}{s:Shared}{σ:St}{H:Hp}{x:Str}{u:Value}{pos:Pos}{Q:Value→Shared→Prop}(I:Inv X zd σ H s)(hg:Gl X x)(hm:X.mg x=some u)(h:Q u s)
  (hd:(x ==("__debug__" :Str))=false:=by decide):wpAny (model X.prog X.w) X.A (eval (.Name x pos) X.env) Q E s:=
 Calls.Name_function_global I.ok.kind hg (Calls.loadGlobal_global (by rw [I.ok.glob];exact I.mod.glob.keeps I.bk) hm h) hd
theorem ad_6{E:Value→Shared→Prop}{zd:List (Addr×Obj)}{s:Shared}{σ:St}{H:Hp}{x:Str}{u:Value}{pos:Pos}{Q:Value→Shared→Prop}(I:Inv X zd σ H s)(hg:Gl X x)(hm:X.mg x=none)(hv:bootBuiltins x=some u)(h:Q u s)
  (hn:x≠ "__name__" :=by decide) (hd:(x ==("__debug__" :Str))=false:=by decide):wpAny (model X.prog X.w) X.A (eval (.Name x pos) X.env) Q E s:=by
 obtain⟨mb,h1,h2⟩:=I.mod.blt;exact Calls.Name_function_global I.ok.kind hg (Calls.loadGlobal_builtin (by rw [I.ok.glob];exact I.mod.glob.keeps I.bk) hm (by rw [I.ok.blt];exact h1.keeps I.bk) ((h2 x hn).trans hv) h) hd
theorem an_0{x:Str}{v:V}{u:Value}{pos:Pos}(hg:Gl X x)(hm:X.mg x=some u)(r:RelV v u)(hd:(x ==("__debug__" :Str))=false:=by decide):PE X (.Name x pos) (tC v):=
 fun _ _ _ H _ I h=>q_8 I hg hm ⟨v,H,I,r,h⟩ hd
theorem bv_3{x:Str}{v:V}{u:Value}{pos:Pos}(hg:Gl X x)(hm:X.mg x=none)(hv:bootBuiltins x=some u)(r:RelV v u)(hn:x≠ "__name__" :=by decide)(hd:(x ==("__debug__" :Str))=false:=by decide):PE X (.Name x pos) (tC v):=
 fun _ _ _ H _ I h=>ad_6 I hg hm hv ⟨v,H,I,r,h⟩ hn hd
variable{a b:Expr}{ta tb:TE}{pos:Pos}
variable{tA tB':TT}{rest:List Expr}
def tAnd(t u:TT):TT:=fun σ H Q=>t σ H fun c H1=>if c=true then u σ H1 Q else Q false H1
def tNot(t:TT):TT:=fun σ H Q=>t σ H fun c H1=>Q (!c) H1
theorem bv_4(ha:PT X a tA):PW X (.BoolOp .And [a] pos) tA:=by
 intro wh zd s σ H Q I h;refine isTrue_and (thn (ha zd s σ H Q I h) fun c s1 e=> ?_);cases c with
 |true=>exact isTrue_and_nil e
 |false=>exact e
theorem ci_0(ha:PT X a tA)(hb:PW X (.BoolOp .And (b::rest) pos) tB'):PW X (.BoolOp .And (a::b::rest) pos) (tAnd tA tB'):=by
 intro wh zd s σ H Q I h;refine isTrue_and (thn (ha zd s σ H _ I h) fun c s1 ⟨H1,I1,q1⟩=> ?_);cases c with
 |true=>exact hb wh zd s1 σ H1 Q I1 q1
 |false=>exact⟨H1,I1,q1⟩
theorem ci_1(ha:PT X a tA):PT X (.UnaryOp .Not a pos) (tNot tA):=by
 intro zd s σ H Q I h;exact isTrue_not (ha zd s σ H (fun c H1=>Q (!c) H1) I h)
def dl_6(ta tb:TE):TE:=fun σ H Q=>ta σ H fun x H1=>∃c,x= .bl c∧if c=true then tb σ H1 Q else Q (.bl false) H1
def dl_7(ta:TE):TE:=fun σ H Q=>ta σ H fun x H1=>∃c,x= .bl c∧Q (.bl (!c)) H1
theorem dd_8{op}{t:TE}(h:PE X a t):PE X (.BoolOp op [a] pos) t:=fun zd s σ H Q I hw=>BoolOp_one (h zd s σ H Q I hw)
theorem dd_9(ha:PE X a ta)(hb:PE X (.BoolOp .And (b::rest) pos) tb):PE X (.BoolOp .And (a::b::rest) pos) (dl_6 ta tb):=by
 intro zd s σ H Q I h;refine BoolOp_and (thn (ha zd s σ H _ I h) fun v s1 ⟨x,H1,I1,r1,q1⟩=> ?_);obtain⟨c,rfl,q1⟩:=q1;cases r1;refine wpAny_truthy_bool ?_;cases c with
 |true=>exact hb zd s1 σ H1 Q I1 q1
 |false=>exact⟨.bl false,H1,I1,rfl,q1⟩
theorem de_0(ha:PE X a ta):PE X (.UnaryOp .Not a pos) (dl_7 ta):=by
 intro zd s σ H Q I h;refine UnaryOp_ (thn (ha zd s σ H _ I h) fun v s1 ⟨x,H1,I1,r1,q1⟩=> ?_);obtain⟨c,rfl,q1⟩:=q1;cases r1;exact not_of (wpAny_truthy_bool ⟨.bl (!c),H1,I1,rfl,q1⟩)
def tIf(t:TT)(ta tb:TE):TE:=fun σ H Q=>t σ H fun c H1=>if c=true then ta σ H1 Q else tb σ H1 Q
theorem ci_2{c:Expr}(hc:PT X c tA)(ha:PE X a ta)(hb:PE X b tb):PE X (.IfExp c a b pos) (tIf tA ta tb):=by
 intro zd s σ H Q I h;refine wpAny_IfExp (thn (hc zd s σ H _ I h) fun d s1 ⟨H1,I1,q1⟩=> ?_);cases d with
 |true=>exact ha zd s1 σ H1 Q I1 q1
 |false=>exact hb zd s1 σ H1 Q I1 q1
end
def SqL(K:Frag)(H:Hp)(a:Addr)(xs:List V):Prop:=
 Rd H a (.lst xs)∨
  ∃(o:Obj) (its:Array Value) (n:Nat),K.lookup a=some o∧o.cls= .type "list" ∧o.dict=none∧o.data= .seq its n∧its.size≤sizeLine∧Vals xs its.toList
def SqT(K:Frag)(H:Hp)(a:Addr)(xs:List V):Prop:=
 Rd H a (.tup xs)∨
  ∃(o:Obj) (its:Array Value) (n:Nat),K.lookup a=some o∧o.cls= .type "tuple" ∧o.data= .seq its n∧its.size≤sizeLine∧Vals xs its.toList
def absV:Value→Option V
 | .none=>some .non
 | .bool b=>some (.bl b)
 | .int i _=>some (.int i)
 | .str x _=>some (.str x)
 | .bytes b _=>some (.byt b)
 | .float b _=>some (.flt b)
 | .ref a=>some (.ref a)
 | .type n=>some (.ty n)
 |_=>none
theorem RelV.abs{x:V}{u:Value}(r:RelV x u):absV u=some x:=by
 cases x with
 |non=>cases r;rfl
 |bl _=>cases r;rfl
 |int _=>obtain⟨t,rfl⟩:=r;rfl
 |str _=>obtain⟨t,rfl⟩:=r;rfl
 |byt _=>obtain⟨t,rfl⟩:=r;rfl
 |flt _=>obtain⟨t,rfl⟩:=r;rfl
 |ref _=>cases r;rfl
 |ty _=>cases r;rfl
theorem RelV.inj{x y:V}{u:Value}(r:RelV x u)(q:RelV y u):x=y:=Option.some.inj (r.abs.symm.trans q.abs)
theorem Vals.inj:∀{xs ys:List V} {us:List Value},Vals xs us→Vals ys us→xs=ys
 |_,_,_, .nil, .nil=>rfl
 |_,_,_, .cons r t, .cons r' t'=>by rw [r.inj r',Vals.inj t t']
section
variable{X:Cx}{zd:List (Addr×Obj)}{σ:St}{H:Hp}{s:Shared}{a:Addr}{xs ys:List V}
theorem SqL.of{K:Frag}(h:H a=some (.lst xs)):SqL K H a xs:= .inl (.inl h)
theorem SqT.of{K:Frag}(h:H a=some (.tup xs)):SqT K H a xs:= .inl (.inl h)
theorem Inv.list(I:Inv X zd σ H s)(h:SqL X.K H a xs):∃its:List Value,Vals xs its∧PlainL s.heap a its.toArray∧xs.length≤sizeLine:=by
 rcases h with h|⟨o,its,n,hk,hc,hd,hs,hz,r⟩
 ·obtain⟨z,its,n,r,e⟩:=h.ok I.hok;exact⟨its,r,⟨_,n,e,rfl,rfl,rfl⟩,z⟩
 ·refine⟨its.toList,r,⟨o,n,I.kIn a o hk,hc,hd,by simpa using hs⟩, ?_⟩;have e:=r.length;simp only [Array.length_toList] at e;omega
theorem Inv.tuple(I:Inv X zd σ H s)(h:SqT X.K H a xs):∃its:List Value,Vals xs its∧IsTup s.heap a its.toArray∧xs.length≤sizeLine:=by
 rcases h with h|⟨o,its,n,hk,hc,hs,hz,r⟩
 ·obtain⟨z,its,r,p⟩:=h.ok I.hok;exact⟨its,r,p,z⟩
 ·refine⟨its.toList,r,⟨o,I.kIn a o hk,hc,n,by simpa using hs⟩, ?_⟩;have e:=r.length;simp only [Array.length_toList] at e;omega
theorem Inv.list_inj(I:Inv X zd σ H s)(h:SqL X.K H a xs)(h':SqL X.K H a ys):xs=ys:=by
 obtain⟨its,r,⟨o,n,e,_,_,d⟩,_⟩:=I.list h;obtain⟨its',r',⟨o',n',e',_,_,d'⟩,_⟩:=I.list h';rw [e] at e';cases e';rw [d] at d';injection d' with d1 _
 have:its=its':=by simpa using congrArg Array.toList d1
 subst this;exact r.inj r'
theorem Inv.tuple_inj(I:Inv X zd σ H s)(h:SqT X.K H a xs)(h':SqT X.K H a ys):xs=ys:=by
 obtain⟨its,r,⟨o,e,_,n,d⟩,_⟩:=I.tuple h;obtain⟨its',r',⟨o',e',_,n',d'⟩,_⟩:=I.tuple h';rw [e] at e';cases e';rw [d] at d';injection d' with d1 _
 have:its=its':=by simpa using congrArg Array.toList d1
 subst this;exact r.inj r'
end
abbrev Cx.wish(X:Cx)(E:Value→Shared→Prop):Cx:={X with xe:=E}
abbrev Cx.nox(X:Cx):Cx:=X.wish fun _ _=>False
theorem Cx.Ok.wish{X:Cx}(ok:X.Ok)(E:Value→Shared→Prop):(X.wish E).Ok:=
 ⟨ok.mod,ok.kind,ok.glob,ok.blt,ok.above,ok.inj,ok.has,ok.cab,ok.hd,ok.frames,ok.stk,ok.exf,ok.bs,ok.bsz,ok.noex,ok.exfs,ok.funs,ok.frf⟩
theorem Cx.Ok.unwish{X:Cx}{E:Value→Shared→Prop}(ok:(X.wish E).Ok):X.Ok:=
 ⟨ok.mod,ok.kind,ok.glob,ok.blt,ok.above,ok.inj,ok.has,ok.cab,ok.hd,ok.frames,ok.stk,ok.exf,ok.bs,ok.bsz,ok.noex,ok.exfs,ok.funs,ok.frf⟩
section
variable{X:Cx}{zd:List (Addr×Obj)}{σ:St}{H:Hp}{s:Shared}{E:Value→Shared→Prop}
theorem Inv.wish(I:Inv X zd σ H s)(E:Value→Shared→Prop):Inv (X.wish E) zd σ H s:=⟨I.ok.wish E,I.os,I.bare,I.base,I.loc,I.cell,I.free,I.freeC,I.pin,I.hok,I.len⟩
theorem Inv.unwish(I:Inv (X.wish E) zd σ H s):Inv X zd σ H s:=⟨I.ok.unwish,I.os,I.bare,I.base,I.loc,I.cell,I.free,I.freeC,I.pin,I.hok,I.len⟩
theorem SP.unwish{D:Ends}{f:Flow}{s':Shared}(h:SP (X.wish E) zd D f s'):SP X zd D f s':=by
 cases f with
 |next=>obtain⟨σ',H',I,q⟩:=h;exact⟨σ',H',I.unwish,q⟩
 |brk=>obtain⟨σ',H',I,q⟩:=h;exact⟨σ',H',I.unwish,q⟩
 |cont=>obtain⟨σ',H',I,q⟩:=h;exact⟨σ',H',I.unwish,q⟩
 |ret u=>obtain⟨v,σ',H',I,r,q⟩:=h;exact⟨v,σ',H',I.unwish,r,q⟩
theorem PE.nox{e:Expr}{t:TE}(h:PE X.nox e t):PE X e t:=fun zd s σ H Q I hw=>
 wpAny_mono (h zd s σ H Q (I.wish _) hw) (fun _ _ ⟨v,H',I',r,q⟩=>⟨v,H',I'.unwish,r,q⟩) fun _ _ z=>False.elim z
end
section
variable{X:Cx}{st:Stmt}{rest:List Stmt}{t u:TS}{e:Expr}{te:TE}{pos:Pos}
def dl_8:TS:=fun D σ H=>D.nx σ H
def tSeq(t u:TS):TS:=fun D σ H=>t {D with nx:=u D} σ H
theorem cs_9:PSs X [] dl_8:=fun _ _ σ H _ I h=>wpAny_execs_nil ⟨σ,H,I,h⟩
theorem ci_3(h1:PS X st t)(h2:PSs X rest u):PSs X (st::rest) (tSeq t u):=by
 intro zd s σ H D I h;refine wpAny_execs_cons (thn (h1 zd s σ H {D with nx:=u D} I h) fun f s1 q=> ?_);cases f with
 |next=>
  obtain⟨σ',H',I',q⟩:=q;exact h2 zd s1 σ' H' D I' q
 |ret v=>exact q
 |brk=>exact q
 |cont=>exact q
theorem ba_6(h1:PS X st t):PSs X [st] t:=by
 intro zd s σ H D I h;refine wpAny_execs_cons (thn (h1 zd s σ H D I h) fun f s1 q=> ?_);cases f with
 |next=>exact wpAny_execs_nil q
 |ret v=>exact q
 |brk=>exact q
 |cont=>exact q
theorem Inv.quiet{zd:List (Addr×Obj)}{σ:St}{H:Hp}{s:Shared}(I:Inv X zd σ H s):interactive X.env=false:=by simp [interactive,I.ok.kind]
def dl_9(te:TE):TS:=fun D σ H=>te σ H fun _ H1=>D.nx σ H1
theorem z_9(he:PE X e te)(hs:swapsWith e none pos.line X.env=pure false:=by rfl):PS X (.Expr e pos) (dl_9 te):=by
 intro zd s σ H D I h;exact wpAny_Expr_any (thn (he zd s σ H _ I h) fun v s1 ⟨x,H1,I1,r1,q1⟩=>⟨σ,H1,I1,q1⟩) I.quiet hs
def tRet(te:TE):TS:=fun D σ H=>te σ H D.rt
theorem bp_2(he:PE X e te):PS X (.Return (some e) pos) (tRet te):=by
 intro zd s σ H D I h;exact wpAny_Return_some (thn (he zd s σ H _ I h) fun v s1 ⟨x,H1,I1,r1,q1⟩=>⟨x,σ,H1,I1,r1,q1⟩)
def tIfS(c:TT)(t u:TS):TS:=fun D σ H=>c σ H fun b H1=>if b=true then t D σ H1 else u D σ H1
theorem db_7{c:Expr}{a b:List Stmt}{tc:TT}(hc:PT X c tc)(ha:PSs X a t)(hb:PSs X b u):PS X (.If c a b pos) (tIfS tc t u):=by
 intro zd s σ H D I h;refine wpAny_If (thn (hc zd s σ H _ I h) fun d s1 ⟨H1,I1,q1⟩=> ?_);cases d with
 |true=>exact ha zd s1 σ H1 D I1 q1
 |false=>exact hb zd s1 σ H1 D I1 q1
end
abbrev TG:=V→St→Hp→(St→Hp→Prop)→Prop
abbrev TGs:=List V→St→Hp→(St→Hp→Prop)→Prop
def PG(X:Cx)(target:Expr)(t:TG):Prop:=
 ∀(zd:List (Addr×Obj)) (s:Shared) (σ:St) (H:Hp) (v:V) (u:Value) (Q:St→Hp→Prop),Inv X zd σ H s→RelV v u→t v σ H Q→
  wpAny (model X.prog X.w) X.A (assign target X.env u) (fun _ s'=>∃σ' H',Inv X zd σ' H' s'∧Q σ' H') X.xe s
def PGs(X:Cx)(ts:List Expr)(t:TGs):Prop:=
 ∀(zd:List (Addr×Obj)) (s:Shared) (σ:St) (H:Hp) (vs:List V) (us:List Value) (Q:St→Hp→Prop),Inv X zd σ H s→Vals vs us→t vs σ H Q→
  wpAny (model X.prog X.w) X.A (assignInOrder ((assignEach ts X.env).map (·.2)) us) (fun _ s'=>∃σ' H',Inv X zd σ' H' s'∧Q σ' H') X.xe s
section
variable{X:Cx}{pos:Pos}
def bv_5(i:Nat):TG:=fun v σ H Q=>Q (σ.set i (some v)) H
theorem af_0{i:Nat}{x:Str}(hN:X.N.Nodup)(hi:X.N[i]? =some x)(hx:Loc X.env.scope x)(hf:X.fn x=true∨X.env.scope.names.lookup x=some .local:=by first|exact .inl rfl|exact .inr rfl|assumption):PG X (.Name x pos) (bv_5 i):=by
 intro zd s σ H v u Q I r h;exact wpAny_assign_Name (ao_4 I hN hi hx r (fun s' I'=>⟨_,H,I',h⟩) hf)
def gNil:TGs:=fun vs σ H Q=>vs= []∧Q σ H
def dm_0(t:TG)(u:TGs):TGs:=fun vs σ H Q=>∃v r,vs=v::r∧t v σ H fun σ' H'=>u r σ' H' Q
theorem bv_6:PGs X [] gNil:=by
 intro zd s σ H vs us Q I r h;obtain⟨e,h⟩:=h;subst e;cases r;exact assignInOrder_nil ⟨σ,H,I,h⟩
theorem ao_5{e:Expr}{es:List Expr}{t:TG}{u:TGs}(h1:PG X e t)(h2:PGs X es u)
  (hs:(assignEach (e::es) X.env).map (·.2)=assign e X.env::(assignEach es X.env).map (·.2):=by rfl):PGs X (e::es) (dm_0 t u):=by
 intro zd s σ H vs us Q I r h;obtain⟨v,vr,e1,h⟩:=h;subst e1;cases r with
 |cons r rr=>
  rw [hs];refine assignInOrder_cons (thn (h1 zd s σ H _ _ _ I r h) fun _ s1 ⟨σ1,H1,I1,q1⟩=> ?_);exact h2 zd s1 σ1 H1 _ _ Q I1 rr q1
def gTup(K:Frag)(n:Nat)(t:TGs):TG:=fun v σ H Q=>∃a xs,v= .ref a∧SqT K H a xs∧xs.length=n∧t xs σ H Q
theorem ci_4{es:List Expr}{k:Nat}{t:TGs}{n:Nat}(hc:X.calm=true)(h:PGs X es t)
  (hn:(assignEach es X.env).length=n:=by rfl) (hst:(assignEach es X.env).findIdx? (·.1)=none:=by rfl):PG X (.Tuple es k pos) (gTup X.K n t):=by
 intro zd s σ H v u Q I r hw;obtain⟨a,xs,e1,hq,hl,hw⟩:=hw;subst e1;cases r;obtain⟨its,rv,ht,hz⟩:=I.tuple hq;refine assign_Tuple_tuple (I.ok.hd hc) ht (by simp [hn,←hl,rv.length]) hst fun h' hx=> ?_;have I1:Inv X zd σ H {s with heap:=h'}:=I.kept (t':=s.toks) fun b o e=>hx b o (Nat.ne_of_lt (Heap.lt_size e)) e;exact h zd _ σ H xs _ Q I1 (by simpa using rv) hw
def tAsg(te:TE)(g:TG):TS:=fun D σ H=>te σ H fun x H1=>g x σ H1 D.nx
theorem de_1{tg e:Expr}{te:TE}{g:TG}(he:PE X e te)(hg:PG X tg g)(hs:swapsWithSole [tg] e pos.line X.env=pure false:=by rfl)(hw:swappedStores [tg] e X.env=pure none:=by rfl)
  (h1:(assignEach [tg] X.env).map (·.2)= [assign tg X.env]:=by rfl):PS X (.Assign [tg] e pos) (tAsg te g):=by
 intro zd s σ H D I h;refine wpAny_Assign_stores (thn (he zd s σ H _ I h) fun v s1 ⟨x,H1,I1,r1,q1⟩=> ?_) hs hw;rw [h1];exact thn (hg zd s1 σ H1 x v _ I1 r1 q1) fun _ s2 q=>q
theorem bp_3{i:Nat}{x:Str}{e:Expr}{te:TE}{pos':Pos}(hN:X.N.Nodup)(hi:X.N[i]? =some x)(hx:Loc X.env.scope x)(he:PE X e te)(hs:swapsWith e (some (.Name x pos')) pos.line X.env=pure false:=by rfl)(hf:X.fn x=true∨X.env.scope.names.lookup x=some .local:=by first|exact .inl rfl|exact .inr rfl|assumption):
  PS X (.Assign [.Name x pos'] e pos) (tAsg te (bv_5 i)):=by
 intro zd s σ H D I h;refine wpAny_Assign_Name (thn (he zd s σ H _ I h) fun v s1 ⟨y,H1,I1,r1,q1⟩=> ?_) hs;exact ao_4 I1 hN hi hx r1 (fun s2 I2=>⟨_,H1,I2,q1⟩) hf
end
section
variable{X:Cx}{pos:Pos}
def de_2(c:TT)(tb:TS):TS:=fun D σ H=>∃W:Nat→St→Hp→Prop,(∃m,W m σ H)∧∀m σ H,W m σ H→
 c σ H fun b H1=>if b=true then∃N:St→Hp→Prop,(∀σ' H',N σ' H'→∃m',m' < m∧W m' σ' H')∧tb {D with nx:=N,ct:=N,bk:=D.nx} σ H1 else D.nx σ H1
theorem ci_5{c:Expr}{body:List Stmt}{tc:TT}{tb:TS}(hp:PassesOwn (model X.prog X.w) X.A X.env X.xe)(hc:PT X c tc)(hb:PSs X body tb):PS X (.While c body [] pos) (de_2 tc tb):=by
 intro zd s σ H D I h;obtain⟨W,⟨m0,w0⟩,turn⟩:=h;refine wpAny_While (codeAny_whileLoop (fun n s'=>∃σ' H',Inv X zd σ' H' s'∧W n σ' H') ?_ m0 ⟨σ,H,I,w0⟩)
 rintro n s1 ⟨σ1,H1,I1,w1⟩
 refine wpAny_passesOwn hp (thn (hc zd s1 σ1 H1 _ I1 (turn n σ1 H1 w1)) fun b s2 ⟨H2,I2,q2⟩=> ?_);cases b with
 |true=>
  obtain⟨N,hN,q2⟩:=q2;rw [if_pos rfl];refine wpAny_passesOwn hp (thn (hb zd s2 σ1 H2 _ I2 q2) fun f s3 q3=> ?_);cases f with
  |next=>
   obtain⟨σ3,H3,I3,n3⟩:=q3;obtain⟨m',hm,w3⟩:=hN σ3 H3 n3;exact⟨m',hm,σ3,H3,I3,w3⟩
  |cont=>
   obtain⟨σ3,H3,I3,n3⟩:=q3;obtain⟨m',hm,w3⟩:=hN σ3 H3 n3;exact⟨m',hm,σ3,H3,I3,w3⟩
  |brk=>exact q3
  |ret v=>exact q3
 |false=>
  rw [if_neg Bool.false_ne_true];exact wpAny_execs_nil ⟨σ1,H2,I2,q2⟩
end
structure It where
 go:Nat→Hp→Prop
 yld:Nat→Hp→V→Hp→Prop
 stop:Nat→Hp→Prop
def x_6(X:Cx)(zd:List (Addr×Obj))(H:Hp)(b:Addr):Prop:=
 H b=none∧b≠X.env.locals∧b∉X.fs∧(b∈X.ex∨X.s₀.heap.objs.size≤b)∧(∀x c,X.env.cells.lookup x=some c→c≠b)∧∀p∈X.pn ++ zd,p.1≠b
theorem Inv.fpOk{X:Cx}{zd:List (Addr×Obj)}{σ:St}{H H':Hp}{s:Shared}{b:Addr}(I:Inv X zd σ H s)(hb:s.heap.objs.size≤b)(hn:H' b=none):x_6 X zd H' b:=by
 refine⟨hn,Nat.ne_of_gt (Nat.lt_of_lt_of_le I.lt hb),I.nofs hb, .inr (Nat.le_trans I.sz hb),fun x c e z=> ?_,fun p hp z=> ?_⟩
 ·obtain⟨v,q⟩:=I.cell x c e;exact absurd (Nat.lt_of_lt_of_le q.lt (by rw [z];exact hb)) (Nat.lt_irrefl _)
 ·exact absurd (Nat.lt_of_lt_of_le (Heap.lt_size (I.pin p hp).1) (by rw [z];exact hb)) (Nat.lt_irrefl _)
structure Turn(P:Program)(w:World)(K:Frag)(tg:Expr)(J:It)(fp:List Addr)(it:Addr)(tn:Nat→Heap→Prop):Prop where
 mem:it∈fp
 obj:∀i h,tn i h→∀b∈fp,∃o,h.get? b=some o∧∀v,o.data≠ .cell v
 keep:∀i h h',tn i h→(∀b∈fp,∀o,h.get? b=some o→h'.get? b=some o)→tn i h'
 item:∀(X:Cx),X.prog=P→X.w=w→X.K=K→X.calm=true→∀(i:Nat) (zd:List (Addr×Obj)) (s:Shared) (σ:St) (H:Hp) (E:Value→Shared→Prop),Inv X zd σ H s→(∀b∈fp,x_6 X zd H b)→tn i s.heap→J.go i H→
  wpAny (model P w) X.A (pyNext (.ref it)) (fun r s1=>∃u,r=some u∧
   wpAny (model P w) X.A (letOwnedTupleGo tg (.ref it) u) (fun _ s2=>∃x H',Inv X zd σ H' s2∧RelV x u∧J.yld i H x H'∧tn (i + 1) s2.heap∧∀b∈fp,H' b=none) E s1) E s
 done:∀(X:Cx),X.prog=P→X.w=w→X.K=K→X.calm=true→∀(i:Nat) (zd:List (Addr×Obj)) (s:Shared) (σ:St) (H:Hp) (E:Value→Shared→Prop),Inv X zd σ H s→(∀b∈fp,x_6 X zd H b)→tn i s.heap→J.stop i H→
  wpAny (model P w) X.A (pyNext (.ref it)) (fun r s1=>r=none∧Inv X zd σ H s1) E s
 self:∀(A:Around) (i:Nat) (s:Shared) (Q:Value→Shared→Prop) (E:Value→Shared→Prop),tn i s.heap→Q (.ref it) s→wpAny (model P w) A (pyIter (.ref it)) Q E s
abbrev TI:=St→Hp→(It→Hp→Prop)→Prop
def PIE(X:Cx)(zd:List (Addr×Obj))(σ:St)(tg:Expr)(R:It→Hp→Prop)(itv:Value)(s2:Shared):Prop:=
 ∃(it:Addr) (fp:List Addr) (tn:Nat→Heap→Prop) (J:It) (H':Hp),itv= .ref it∧Inv X zd σ H' s2∧Turn X.prog X.w X.K tg J fp it tn∧tn 0 s2.heap∧(∀b∈fp,x_6 X zd H' b)∧R J H'
def PI(X:Cx)(tg iter:Expr)(wi:TI):Prop:=
 ∀(zd:List (Addr×Obj)) (s:Shared) (σ:St) (H:Hp) (R:It→Hp→Prop),Inv X zd σ H s→wi σ H R→
  wpAny (model X.prog X.w) X.A (eval iter X.env) (fun v s1=>wpAny (model X.prog X.w) X.A (pyIter v) (PIE X zd σ tg R) X.xe s1) X.xe s
theorem bg_9{M:Model}{A:Around}{E:Value→Shared→Prop}{s:Shared}{tg:Expr}{it:Addr}{u:Value}{o:Obj}{n:String}{vs:Array Value}{Q:Unit→Shared→Prop}(ho:s.heap.get? it=some o)(hc:o.cls= .type n)(hd:o.data= .fields vs)
  (hn: ["enumerate", "zip", "dict_itemiterator", "dict_reverseitemiterator", "odict_iterator", "itertools.zip_longest", "itertools.pairwise"].contains n=false) (hQ:Q () s):wpAny M A (letOwnedTupleGo tg (.ref it) u) Q E s:=by
 unfold letOwnedTupleGo;cases tg <;> first
  |exact wpAny_pure hQ
  | (cases u <;> first
    |exact wpAny_pure hQ
    | (refine wpAny_bind (wpAny_load ho ?_)
       rw [hc,hd];show wpAny M A (if(["enumerate", "zip", "dict_itemiterator", "dict_reverseitemiterator", "odict_iterator", "itertools.zip_longest", "itertools.pairwise"].contains n && vs[0]? ==some (rawInt _))=true then _ else _) Q E s;rw [if_neg (by intro h;rw [hn,Bool.false_and] at h;cases h)];exact wpAny_pure hQ))
def Itl(K:Frag)(a:Addr):It:=
 ⟨fun i H=>∃xs x,SqL K H a xs∧xs[i]? =some x,fun i H x H'=>H'=H∧∀xs,SqL K H a xs→xs[i]? =some x,fun i H=>∃xs,SqL K H a xs∧xs.length≤i⟩
def Itt(K:Frag)(a:Addr):It:=
 ⟨fun i H=>∃xs x,SqT K H a xs∧xs[i]? =some x,fun i H x H'=>H'=H∧∀xs,SqT K H a xs→xs[i]? =some x,fun i H=>∃xs,SqT K H a xs∧xs.length≤i⟩
def Itr(lo:Int)(n:Nat):It:=⟨fun i _=>i < n,fun i H x H'=>H'=H∧x= .int (lo + i),fun i _=>n≤i⟩
theorem cc_0{P:Program}{w:World}{K:Frag}{tg:Expr}(a it:Addr):Turn P w K tg (Itl K a) [it] it (fun i h=>h.IsListIter it a i) where
 mem:=by simp
 obj:=fun i h st b hb=>by
  have e:b=it:=by simpa using hb
  subst e;obtain⟨o,e,c,d⟩:=st;exact⟨o,e,fun v z=>by rw [d] at z;cases z⟩
 keep:=fun i h h' st k=>st.at fun o e=>k it (by simp) o e
 item:=by
  intro X hP hw hK hc i zd s σ H E I hf st hg;subst hP hw hK;obtain⟨xs,x,hq,hx⟩:=hg;obtain⟨its,rv,p,hz⟩:=I.list hq;obtain⟨u,hu,ru⟩:=rv.get hx;obtain⟨f0,f1,f2,f3,f4,f5⟩:=hf it (by simp);refine wpAny_pyNext_list_item st p.isList (x:=u) (by simpa using hu) fun h' st' sb=> ?_;have I1:Inv X zd σ H {s with heap:=h'}:=I.turned (t':=s.toks) (fun b o hb e=>(sb.2 b hb).trans e) f0 f1 f3 f4 f5;obtain⟨o,e,c,d⟩:=id st';exact⟨u,rfl,bg_9 (s:={s with heap:=h'}) e c d (by decide) ⟨x,H,I1,ru,⟨rfl,fun ys hy=>by rw [I.list_inj hy hq];exact hx⟩,st',fun b hb=>(hf b hb).1⟩⟩
 done:=by
  intro X hP hw hK hc i zd s σ H E I hf st hg;subst hP hw hK;obtain⟨xs,hq,hx⟩:=hg;obtain⟨its,rv,p,hz⟩:=I.list hq;obtain⟨f0,f1,f2,f3,f4,f5⟩:=hf it (by simp);have hl:=rv.length;exact wpAny_pyNext_list_end (I.ok.hd hc) st p.isList (by simp;omega) fun h' eb=>⟨rfl,I.turned (t':=s.toks) (fun b o hb e=>eb b o hb e) f0 f1 f3 f4 f5⟩
 self:=fun _ _ _ _ _ st h=>wpAny_pyIter_listiter st h
theorem bp_4{P:Program}{w:World}{K:Frag}{tg:Expr}(a it:Addr):Turn P w K tg (Itt K a) [it] it (fun i h=>h.IsTupleIter it a i) where
 mem:=by simp
 obj:=fun i h st b hb=>by
  have e:b=it:=by simpa using hb
  subst e;obtain⟨o,e,c,d⟩:=st;exact⟨o,e,fun v z=>by rw [d] at z;cases z⟩
 keep:=fun i h h' st k=>st.at fun o e=>k it (by simp) o e
 item:=by
  intro X hP hw hK hc i zd s σ H E I hf st hg;subst hP hw hK;obtain⟨xs,x,hq,hx⟩:=hg;obtain⟨its,rv,p,hz⟩:=I.tuple hq;obtain⟨u,hu,ru⟩:=rv.get hx;obtain⟨f0,f1,f2,f3,f4,f5⟩:=hf it (by simp);refine wpAny_pyNext_tuple_item st (show s.heap.IsTuple a its.toArray from p) (x:=u) (by simpa using hu) fun h' st' sb=> ?_;have I1:Inv X zd σ H {s with heap:=h'}:=I.turned (t':=s.toks) (fun b o hb e=>(sb.2 b hb).trans e) f0 f1 f3 f4 f5;obtain⟨o,e,c,d⟩:=id st';exact⟨u,rfl,bg_9 (s:={s with heap:=h'}) e c d (by decide) ⟨x,H,I1,ru,⟨rfl,fun ys hy=>by rw [I.tuple_inj hy hq];exact hx⟩,st',fun b hb=>(hf b hb).1⟩⟩
 done:=by
  intro X hP hw hK hc i zd s σ H E I hf st hg;subst hP hw hK;obtain⟨xs,hq,hx⟩:=hg;obtain⟨its,rv,p,hz⟩:=I.tuple hq;obtain⟨f0,f1,f2,f3,f4,f5⟩:=hf it (by simp);have hl:=rv.length;exact wpAny_pyNext_tuple_end (I.ok.hd hc) st (show s.heap.IsTuple a its.toArray from p) (by simp;omega) fun h' eb=>⟨rfl,I.turned (t':=s.toks) (fun b o hb e=>eb b o hb e) f0 f1 f3 f4 f5⟩
 self:=fun _ _ _ _ _ st h=>wpAny_pyIter_tupleiter st h
theorem bp_5{P:Program}{w:World}{K:Frag}{tg:Expr}(it:Addr)(lo:Int)(n:Nat):Turn P w K tg (Itr lo n) [it] it (fun i h=>IsRangeIter h it (lo + (i:Nat) * 1) ((n:Int) - (i:Nat)) 1) where
 mem:=by simp
 obj:=fun i h st b hb=>by
  have e:b=it:=by simpa using hb
  subst e;exact⟨_,st,fun v z=>by
   have z':Data.fields _=Data.cell v:=z;cases z'⟩
 keep:=fun i h h' st k=>k it (by simp) _ st
 item:=by
  intro X hP hw hK hc i zd s σ H E I hf st hg;subst hP hw hK;obtain⟨f0,f1,f2,f3,f4,f5⟩:=hf it (by simp);have W:=Walks.range (prog:=X.prog) (w:=X.w) (I.ok.hd hc) it lo 1 n;refine W.item i s _ _ hg st fun v h' tk hv st' kk=> ?_;obtain⟨t,rfl⟩:=hv;have I1:Inv X zd σ H {s with heap:=h',toks:=tk}:=I.turned (fun b o hb e=>kk b o (by simpa using hb) e) f0 f1 f3 f4 f5;refine⟨_,rfl,bg_9 (s:={s with heap:=h',toks:=tk}) (n:= "range_iterator") st' rfl rfl (by decide) ⟨.int (lo + i),H,I1,⟨t, ?_⟩,⟨rfl,rfl⟩,st',fun b hb=>(hf b hb).1⟩⟩;rw [Int.mul_one]
 done:=by
  intro X hP hw hK hc i zd s σ H E I hf st hg;subst hP hw hK;obtain⟨f0,f1,f2,f3,f4,f5⟩:=hf it (by simp);exact wpAny_pyNext_range_end (I.ok.hd hc) st (by have:n≤i:=hg;omega) fun h' eb=>⟨rfl,I.turned (t':=s.toks) (fun b o hb e=>eb b o hb e) f0 f1 f3 f4 f5⟩
 self:=fun _ _ _ _ _ st h=>wpAny_pyIter_rangeiter st h
section
variable{X:Cx}{tg:Expr}
theorem ci_6{zd:List (Addr×Obj)}{σ:St}{H:Hp}{s:Shared}{R:It→Hp→Prop}{E:Value→Shared→Prop}{lo hi:Int}{t u v:Tok}{tk:Nat}(I:Inv X zd σ H s)(h1: -(2 ^ 62)≤lo)(h2:lo < 2 ^ 62)(h3: -(2 ^ 62)≤hi)(h4:hi < 2 ^ 62)
  (q:R (Itr lo (hi - lo).toNat) H):wpAny (model X.prog X.w) X.A (pyIter (.ref s.heap.objs.size)) (PIE X zd σ tg R) E {s with heap:=s.heap.push {cls:= .type "range",data:= .fields #[.int lo t, .int hi u, .int 1 v]},toks:=tk}:=by
 refine wpAny_pyIter_range (IsRange.new ..) (small_one h1 h2 h3 h4) ?_;have I1:Inv X zd σ H {s with heap:=s.heap.push {cls:= .type "range",data:= .fields #[.int lo t, .int hi u, .int 1 v]},toks:=tk}:=I.kept fun b o e=>Heap.get?_push_of_some _ e;refine⟨(s.heap.push {cls:= .type "range",data:= .fields #[.int lo t, .int hi u, .int 1 v]}).objs.size, [(s.heap.push {cls:= .type "range",data:= .fields #[.int lo t, .int hi u, .int 1 v]}).objs.size],_,_,H,rfl,
  I1.kept (t':=tk) fun b o e=>Heap.get?_push_of_some _ e,bp_5 _ lo (hi - lo).toNat, ?_,fun b hb=> ?_,q⟩
 ·have e1:lo + ((0:Nat):Int) * 1=lo:=by simp
  have e2:(((hi - lo).toNat:Nat):Int) - ((0:Nat):Int)=Builtin.Range.rangeSize lo hi 1:=by rw [rangeSize_one];split <;> omega
  show IsRangeIter _ _ (lo + ((0:Nat):Int) * 1) ((((hi - lo).toNat:Nat):Int) - ((0:Nat):Int)) 1;rw [e1,e2];exact Heap.get?_push_size _ rfl
 ·have e:b=(s.heap.push {cls:= .type "range",data:= .fields #[.int lo t, .int hi u, .int 1 v]}).objs.size:=by simpa using hb
  subst e;exact I1.fpOk (Nat.le_refl _) (I1.hok.fresh (Nat.le_refl _))
def dm_1(ta:TA):TI:=fun σ H R=>ta σ H fun vs H1=>∃j:Int,vs= [.int j]∧ -(2 ^ 62)≤j∧j < 2 ^ 62∧R (Itr 0 j.toNat) H1
theorem cc_1{a:Expr}{ta:TA}{p pos:Pos}(hg:Gl X "range")(hm:X.mg "range" =none)(ha:PA X [a] ta)(hs:starEach [a] X.env= [(false,eval a X.env)]:=by rfl):PI X tg (.Call (.Name "range" p) [a] [] pos) (dm_1 ta):=by
 intro zd s σ H R I h;refine Call_ (ad_6 I hg hm boot_range (PyProof.Rows.callWith_type1 (thn (ha pos zd s σ H _ I h) fun us s1 ⟨vs,H1,I1,r1,q1⟩=> ?_) hs rfl));obtain⟨j,e,q1,q2,q⟩:=q1;subst e;cases r1 with
 |cons r rr=>
  cases rr;obtain⟨t,rfl⟩:=r;exact call_range_1 (ci_6 I1 (by omega) (by omega) q1 q2 (by simpa using q))
def tFor(wi:TI)(g:TG)(tb:TS):TS:=fun D σ H=>wi σ H fun J H1=>∃W:Nat→Nat→St→Hp→Prop,(∃m,W 0 m σ H1)∧∀i m σ H,W i m σ H→
 (J.stop i H∧D.nx σ H)∨(J.go i H∧∃N:St→Hp→Prop,(∀σ' H',N σ' H'→∃m',m' < m∧W (i + 1) m' σ' H')∧∀x H',J.yld i H x H'→g x σ H' fun σ2 H2=>tb {D with nx:=N,ct:=N,bk:=D.nx} σ2 H2)
def ao_6(fp:List Addr)(h:Heap):List (Addr×Obj):=fp.filterMap fun b=>(h.get? b).map fun o=>(b,o)
theorem v_6{fp:List Addr}{h:Heap}{b:Addr}{o:Obj}(hb:b∈fp)(e:h.get? b=some o):(b,o)∈ao_6 fp h:=List.mem_filterMap.mpr ⟨b,hb,by rw [e];rfl⟩
theorem cc_2{fp:List Addr}{h:Heap}{p:Addr×Obj}(hp:p∈ao_6 fp h):p.1∈fp∧h.get? p.1=some p.2:=by
 obtain⟨b,hb,e⟩:=List.mem_filterMap.mp hp;cases q:h.get? b with
 |none=>rw [q] at e;cases e
 |some o=>
  rw [q] at e;have e':(b,o)=p:=Option.some.inj e;subst e';exact⟨hb,q⟩
theorem Inv.pinned{zd:List (Addr×Obj)}{σ:St}{H:Hp}{s:Shared}{fp:List Addr}(I:Inv X zd σ H s)(hf:∀b∈fp,x_6 X zd H b)(ho:∀b∈fp,∃o,s.heap.get? b=some o∧∀v,o.data≠ .cell v):Inv X (zd ++ ao_6 fp s.heap) σ H s:=
 I.pins_of fun p hp=>(List.mem_append.mp hp).elim (fun z=>I.pin p (List.mem_append_right _ z)) fun z=>by
  obtain⟨hb,e⟩:=cc_2 z;obtain⟨f0,f1,f2,_⟩:=hf p.1 hb;obtain⟨o,e',d⟩:=ho p.1 hb;rw [e] at e';cases e';exact⟨e,f0,f1,f2,d⟩
theorem Inv.unpinned{zd pl:List (Addr×Obj)}{σ:St}{H:Hp}{s:Shared}(I:Inv X (zd ++ pl) σ H s):Inv X zd σ H s:=I.pins_of fun p hp=>I.pin p (List.mem_append_right _ (List.mem_append_left _ hp))
theorem ci_7{iter:Expr}{body:List Stmt}{wi:TI}{g:TG}{tb:TS}{pos:Pos}(hp:PassesOwn (model X.prog X.w) X.A X.env X.xe)(hc:X.calm=true)(hi:PI X tg iter wi)(hg:PG X tg g)(hb:PSs X body tb)
  (hs:∀x,foldedSetIterable iter X.env x=pure x:=by intro _;rfl):PS X (.For tg iter body [] pos) (tFor wi g tb):=by
 intro zd s σ H D I h;refine wpAny_For (thn (hi zd s σ H _ I h) fun v s1 h1=>thn h1 fun itv s2 h2=> ?_) hs;obtain⟨it,fp,tn,J,H2,e,I2,T,st2,f2,W,⟨m0,w0⟩,turn⟩:=h2;subst e
 
 have bw:∀{H':Hp},(∀b∈fp,H' b=none)→∀b∈fp,x_6 X zd H' b:=fun hn b hb=>⟨hn b hb,(f2 b hb).2⟩;refine codeAny_forLoop_any (fun n s'=>∃i σ' H',Inv X zd σ' H' s'∧tn i s'.heap∧(∀b∈fp,H' b=none)∧W i n σ' H') ?_ m0 ⟨0,σ,H2,I2,st2,fun b hb=>(f2 b hb).1,w0⟩
 rintro n s3 ⟨i,σ3,H3,I3,st3,fr3,w3⟩
 rcases turn i n σ3 H3 w3 with⟨stop,qn⟩|⟨go,N,hN,step⟩
 ·refine wpAny_passesOwn hp (thn (T.done X rfl rfl rfl hc i zd s3 σ3 H3 X.xe I3 (bw fr3) st3 stop) fun r s4 ⟨hr,I4⟩=> ?_);subst hr;exact wpAny_execs_nil ⟨σ3,H3,I4,qn⟩
 ·refine wpAny_passesOwn hp (thn (T.item X rfl rfl rfl hc i zd s3 σ3 H3 X.xe I3 (bw fr3) st3 go) fun r s4 ⟨u,hr,h4⟩=> ?_);subst hr;refine wpAny_passesOwn hp (thn h4 fun _ s5 ⟨x,H5,I5,r5,y5,st5,fr5⟩=> ?_);have I5':=I5.pinned (bw fr5) (T.obj _ _ st5);refine wpAny_passesOwn hp (thn (hg _ s5 σ3 H5 x u _ I5' r5 (step x H5 y5)) fun _ s6 ⟨σ6,H6,I6,q6⟩=> ?_);refine wpAny_passesOwn hp (thn (hb _ s6 σ6 H6 _ I6 q6) fun f s7 q7=> ?_);have again:∀{σ7:St} {H7:Hp},Inv X (zd ++ ao_6 fp s5.heap) σ7 H7 s7→N σ7 H7→∃m,m < n∧∃i σ' H',Inv X zd σ' H' s7∧tn i s7.heap∧(∀b∈fp,H' b=none)∧W i m σ' H':=fun{σ7 H7} I7 n7=>by
   obtain⟨m',hm,w7⟩:=hN σ7 H7 n7;refine⟨m',hm,i + 1,σ7,H7,I7.unpinned,T.keep _ _ _ st5 fun b hb o e=>(I7.pin (b,o) (List.mem_append_right _ (List.mem_append_right _ (v_6 hb e)))).1,fun b hb=> ?_,w7⟩;obtain⟨o,e,d⟩:=T.obj _ _ st5 b hb;exact(I7.pin (b,o) (List.mem_append_right _ (List.mem_append_right _ (v_6 hb e)))).2.1
  cases f with
  |next=>obtain⟨σ7,H7,I7,n7⟩:=q7;exact again I7 n7
  |cont=>obtain⟨σ7,H7,I7,n7⟩:=q7;exact again I7 n7
  |brk=>obtain⟨σ7,H7,I7,q7⟩:=q7;exact⟨σ7,H7,I7.unpinned,q7⟩
  |ret v=>obtain⟨x7,σ7,H7,I7,r7,q7⟩:=q7;exact⟨x7,σ7,H7,I7.unpinned,r7,q7⟩
end
abbrev R2:=V→V→Hp→VK→Prop
def OpR(X:Cx)(f:Value→Value→Sem Value)(r:R2):Prop:=
 ∀(zd:List (Addr×Obj)) (s:Shared) (σ:St) (H:Hp) (x y:V) (v u:Value) (Q:VK),Inv X zd σ H s→RelV x v→RelV y u→r x y H Q→
  wpAny (model X.prog X.w) X.A (f v u) (EP X zd σ Q) X.xe s
def UnR(X:Cx)(f:Value→Sem Value)(r:V→Hp→VK→Prop):Prop:=
 ∀(zd:List (Addr×Obj)) (s:Shared) (σ:St) (H:Hp) (x:V) (v:Value) (Q:VK),Inv X zd σ H s→RelV x v→r x H Q→
  wpAny (model X.prog X.w) X.A (f v) (EP X zd σ Q) X.xe s
def CallR(X:Cx)(f:Value)(r:List V→Hp→VK→Prop):Prop:=
 ∀(zd:List (Addr×Obj)) (s:Shared) (σ:St) (H:Hp) (xs:List V) (us:List Value) (Q:VK),Inv X zd σ H s→Vals xs us→r xs H Q→
  wpAny (model X.prog X.w) X.A (call f us) (EP X zd σ Q) X.xe s
def TruR(X:Cx)(r:V→Hp→(Bool→Hp→Prop)→Prop):Prop:=
 ∀(zd:List (Addr×Obj)) (s:Shared) (σ:St) (H:Hp) (x:V) (v:Value) (Q:Bool→Hp→Prop),Inv X zd σ H s→RelV x v→r x H Q→
  wpAny (model X.prog X.w) X.A (truthy v) (TP X zd σ Q) X.xe s
def tOp(r:R2)(ta tb:TE):TE:=fun σ H Q=>ta σ H fun x H1=>tb σ H1 fun y H2=>r x y H2 Q
def tUn(r:V→Hp→VK→Prop)(ta:TE):TE:=fun σ H Q=>ta σ H fun x H1=>r x H1 Q
def rI(C:Int→Int→Prop)(g:Int→Int→V):R2:=fun x y H Q=>∃i j,x= .int i∧y= .int j∧C i j∧Q (g i j) H
def rI0(g:Int→Int→V):R2:=fun x y H Q=>∃i j,x= .int i∧y= .int j∧Q (g i j) H
def rU(g:Int→V):V→Hp→VK→Prop:=fun x H Q=>∃i,x= .int i∧Q (g i) H
section
variable{X:Cx}{a b c:Expr}{ta tb tc:TE}{pos:Pos}
theorem binT(ha:PE X a ta)(hb:PE X b tb){zd:List (Addr×Obj)}{s:Shared}{σ:St}{H:Hp}{R:V→V→Hp→Prop}(I:Inv X zd σ H s)
  (h:ta σ H fun x H1=>tb σ H1 fun y H2=>R x y H2) {Q:Value→Shared→Prop} {f:Value→Value→Sem Value}
  (hf:∀v u s2 x y H2,Inv X zd σ H2 s2→RelV x v→RelV y u→R x y H2→wpAny (model X.prog X.w) X.A (f v u) Q X.xe s2):
  wpAny (model X.prog X.w) X.A (eval a X.env) (fun v s₁=>wpAny (model X.prog X.w) X.A (eval b X.env) (fun u s₂=>wpAny (model X.prog X.w) X.A (f v u) Q X.xe s₂) X.xe s₁) X.xe s:=by
 refine thn (ha zd s σ H _ I h) fun v s1 ⟨x,H1,I1,r1,q1⟩=> ?_;refine thn (hb zd s1 σ H1 _ I1 q1) fun u s2 ⟨y,H2,I2,r2,q2⟩=> ?_;exact hf v u s2 x y H2 I2 r1 r2 q2
theorem db_8{op:Operator}{r:R2}(ho:OpR X (binaryOp op) r)(ha:PE X a ta)(hb:PE X b tb):PE X (.BinOp a op b pos) (tOp r ta tb):=by
 intro zd s σ H Q I h;exact wpAny_BinOp (binT ha hb I h fun v u s2 x y H2 I2 rx ry q=>ho zd s2 σ H2 x y v u Q I2 rx ry q)
theorem dm_2{op:UnaryOp}{r:V→Hp→VK→Prop}(ho:UnR X (unaryOp op) r)(ha:PE X a ta):PE X (.UnaryOp op a pos) (tUn r ta):=by
 intro zd s σ H Q I h;exact UnaryOp_ (thn (ha zd s σ H _ I h) fun v s1 ⟨x,H1,I1,r1,q1⟩=>ho zd s1 σ H1 x v Q I1 r1 q1)
theorem opI{f:Value→Value→Sem Value}{C:Int→Int→Prop}{g:Int→Int→Int}
  (rule:∀(i j:Int) (t u:Tok) (s:Shared) (Q:Value→Shared→Prop) (E:Value→Shared→Prop),C i j→Q (.int (g i j) s.toks) {s with toks:=s.toks + 1}→wpAny (model X.prog X.w) X.A (f (.int i t) (.int j u)) Q E s):
  OpR X f (rI C fun i j=> .int (g i j)):=by
 intro zd s σ H x y v u Q I rx ry h;obtain⟨i,j,rfl,rfl,hc,q⟩:=h;obtain⟨t,rfl⟩:=rx;obtain⟨t',rfl⟩:=ry;exact rule i j t t' s _ _ hc ⟨.int (g i j),H,I.tok _,⟨_,rfl⟩,q⟩
theorem opI0{f:Value→Value→Sem Value}{g:Int→Int→Int}
  (rule:∀(i j:Int) (t u:Tok) (s:Shared) (Q:Value→Shared→Prop) (E:Value→Shared→Prop),Q (.int (g i j) s.toks) {s with toks:=s.toks + 1}→wpAny (model X.prog X.w) X.A (f (.int i t) (.int j u)) Q E s):
  OpR X f (rI0 fun i j=> .int (g i j)):=by
 intro zd s σ H x y v u Q I rx ry h;obtain⟨i,j,rfl,rfl,q⟩:=h;obtain⟨t,rfl⟩:=rx;obtain⟨t',rfl⟩:=ry;exact rule i j t t' s _ _ ⟨.int (g i j),H,I.tok _,⟨_,rfl⟩,q⟩
theorem opB0{f:Value→Value→Sem Value}{g:Int→Int→Bool}
  (rule:∀(i j:Int) (t u:Tok) (s:Shared) (Q:Value→Shared→Prop) (E:Value→Shared→Prop),Q (.bool (g i j)) s→wpAny (model X.prog X.w) X.A (f (.int i t) (.int j u)) Q E s):
  OpR X f (rI0 fun i j=> .bl (g i j)):=by
 intro zd s σ H x y v u Q I rx ry h;obtain⟨i,j,rfl,rfl,q⟩:=h;obtain⟨t,rfl⟩:=rx;obtain⟨t',rfl⟩:=ry;exact rule i j t t' s _ _ ⟨.bl (g i j),H,I,rfl,q⟩
def CPow(i j:Int):Prop:=0≤j∧j≤1000000∧i.natAbs < 2 ^ 64
def CMul(i j:Int):Prop:=(-(2 ^ 64) < i∧i < 2 ^ 64)∨(-(2 ^ 64) < j∧j < 2 ^ 64)
theorem CMul.ok{i j:Int}(h:CMul i j):IntMulOk i j:=by
 rcases h with⟨h1,h2⟩|⟨h1,h2⟩
 ·exact .of_left (intBits_le_64 h1 h2)
 ·exact .of_right (intBits_le_64 h1 h2)
theorem de_5:OpR X (binaryOp .Add) (rI0 fun i j=> .int (i + j)):=opI0 fun _ _ _ _ _ _ _ q=>add_int q
theorem de_6:OpR X (binaryOp .Mult) (rI CMul fun i j=> .int (i * j)):=opI fun _ _ _ _ _ _ _ hc q=>mul_int q hc.ok
theorem de_7:OpR X (binaryOp .Mod) (rI (fun _ j=>0 < j) fun i j=> .int (i % j)):=opI fun i j _ _ _ _ _ hc q=>by
 have h1:(0:Int) < j:=hc;exact mod_int' (by omega) (by rw [Int.fmod_eq_emod_of_nonneg i (by omega)];exact q)
theorem de_8:OpR X (binaryOp .Pow) (rI CPow fun i j=> .int (i ^ j.toNat)):=opI fun _ _ _ _ _ _ _ hc q=>pow_int_small hc.1 hc.2.1 hc.2.2 q
theorem unI{f:Value→Sem Value}{g:Int→Int}
  (rule:∀(i:Int) (t:Tok) (s:Shared) (Q:Value→Shared→Prop) (E:Value→Shared→Prop),Q (.int (g i) s.toks) {s with toks:=s.toks + 1}→wpAny (model X.prog X.w) X.A (f (.int i t)) Q E s):
  UnR X f (rU fun i=> .int (g i)):=by
 intro zd s σ H x v Q I rx h;obtain⟨i,rfl,q⟩:=h;obtain⟨t,rfl⟩:=rx;exact rule i t s _ _ ⟨.int (g i),H,I.tok _,⟨_,rfl⟩,q⟩
theorem de_9:UnR X (unaryOp .USub) (rU fun i=> .int (-i)):=unI fun _ _ _ _ _ q=>neg_int q
end
def scal:V→V→Bool
 | .non, .non=>true| .non, .int _=>true| .int _, .non=>true| .non, .bl _=>true| .bl _, .non=>true| .non, .str _=>true| .str _, .non=>true
 | .int _, .int _=>true| .bl _, .bl _=>true| .str _, .str _=>true| .byt _, .byt _=>true
 | .int _, .str _=>true| .str _, .int _=>true| .bl _, .str _=>true| .str _, .bl _=>true
 |_,_=>false
def rEq:R2:=fun x y H Q=>scal x y=true∧Q (.bl (decide (x=y))) H
def rNe:R2:=fun x y H Q=>scal x y=true∧Q (.bl (!decide (x=y))) H
theorem bv_7{i j:Int}:decide (V.int i=V.int j)=(i ==j):=by
 rw [Bool.eq_iff_iff];simp
theorem ci_8{i j:Bool}:decide (V.bl i=V.bl j)=(i ==j):=by
 rw [Bool.eq_iff_iff];simp
theorem bv_8{i j:Str}:decide (V.str i=V.str j)=(i ==j):=by
 rw [Bool.eq_iff_iff];simp
theorem bv_9{i j:Array UInt8}:decide (V.byt i=V.byt j)=(i.toList ==j.toList):=by
 rw [Bool.eq_iff_iff];cases i;cases j;simp
section
variable{X:Cx}{a b c:Expr}{ta tb tc:TE}{pos:Pos}
theorem d_9{zd:List (Addr×Obj)}{σ:St}{H:Hp}{s:Shared}{Q:VK}{k k':Bool}(I:Inv X zd σ H s)(q:Q (.bl k) H)(e:k=k'):EP X zd σ Q (.bool k') s:=by
 subst e;exact⟨.bl k,H,I,rfl,q⟩
theorem dm_5:OpR X (compareOp .Eq) rEq:=by
 intro zd s σ H x y v u Q I rx ry h;obtain⟨hs,q⟩:=h;cases x with
 |non=>
  cases rx;cases y with
  |non=>cases ry;exact PySem.EqNone.eq_none_none (d_9 I q (by simp))
  |bl j=>cases ry;exact PySem.EqNone.eq_none_bool (d_9 I q (by simp))
  |int j=>obtain⟨t',rfl⟩:=ry;exact PySem.EqNone.eq_none_int (d_9 I q (by simp))
  |str j=>obtain⟨t',rfl⟩:=ry;exact PySem.EqNone.eq_none_str (d_9 I q (by simp))
  |_=>exact absurd (show false=true from hs) Bool.false_ne_true
 |bl i=>
  cases rx;cases y with
  |non=>cases ry;exact PySem.EqNone.eq_bool_none (d_9 I q (by simp))
  |bl j=>cases ry;exact eq_bool (d_9 I q ci_8)
  |str j=>obtain⟨t',rfl⟩:=ry;exact PySem.EqMixed.eq_bool_str (d_9 I q (by simp))
  |_=>exact absurd (show false=true from hs) Bool.false_ne_true
 |int i=>
  obtain⟨t,rfl⟩:=rx;cases y with
  |non=>cases ry;exact PySem.EqNone.eq_int_none (d_9 I q (by simp))
  |int j=>obtain⟨t',rfl⟩:=ry;exact eq_int (d_9 I q bv_7)
  |str j=>obtain⟨t',rfl⟩:=ry;exact PySem.EqMixed.eq_int_str (d_9 I q (by simp))
  |_=>exact absurd (show false=true from hs) Bool.false_ne_true
 |str i=>
  obtain⟨t,rfl⟩:=rx;cases y with
  |non=>cases ry;exact PySem.EqNone.eq_str_none (d_9 I q (by simp))
  |bl j=>cases ry;exact PySem.EqMixed.eq_str_bool (d_9 I q (by simp))
  |int j=>obtain⟨t',rfl⟩:=ry;exact PySem.EqMixed.eq_str_int (d_9 I q (by simp))
  |str j=>obtain⟨t',rfl⟩:=ry;exact eq_str (d_9 I q bv_8)
  |_=>exact absurd (show false=true from hs) Bool.false_ne_true
 |byt i=>
  obtain⟨t,rfl⟩:=rx;cases y with
  |byt j=>obtain⟨t',rfl⟩:=ry;exact eq_bytes (d_9 I q bv_9)
  |_=>exact absurd (show false=true from hs) Bool.false_ne_true
 |_=>cases y <;> exact absurd (show false=true from hs) Bool.false_ne_true
theorem dm_6:OpR X (compareOp .NotEq) rNe:=by
 intro zd s σ H x y v u Q I rx ry h;obtain⟨hs,q⟩:=h;cases x with
 |non=>
  cases rx;cases y with
  |non=>cases ry;exact PySem.EqNone.ne_none_none (d_9 I q (by simp))
  |bl j=>cases ry;exact PySem.EqNone.ne_none_bool (d_9 I q (by simp))
  |int j=>obtain⟨t',rfl⟩:=ry;exact PySem.EqNone.ne_none_int (d_9 I q (by simp))
  |str j=>obtain⟨t',rfl⟩:=ry;exact PySem.EqNone.ne_none_str (d_9 I q (by simp))
  |_=>exact absurd (show false=true from hs) Bool.false_ne_true
 |bl i=>
  cases rx;cases y with
  |non=>cases ry;exact PySem.EqNone.ne_bool_none (d_9 I q (by simp))
  |bl j=>cases ry;exact ne_bool (d_9 I q (congrArg not ci_8))
  |str j=>obtain⟨t',rfl⟩:=ry;exact PySem.EqMixed.ne_bool_str (d_9 I q (by simp))
  |_=>exact absurd (show false=true from hs) Bool.false_ne_true
 |int i=>
  obtain⟨t,rfl⟩:=rx;cases y with
  |non=>cases ry;exact PySem.EqNone.ne_int_none (d_9 I q (by simp))
  |int j=>obtain⟨t',rfl⟩:=ry;exact ne_int (d_9 I q (congrArg not bv_7))
  |str j=>obtain⟨t',rfl⟩:=ry;exact PySem.EqMixed.ne_int_str (d_9 I q (by simp))
  |_=>exact absurd (show false=true from hs) Bool.false_ne_true
 |str i=>
  obtain⟨t,rfl⟩:=rx;cases y with
  |non=>cases ry;exact PySem.EqNone.ne_str_none (d_9 I q (by simp))
  |bl j=>cases ry;exact PySem.EqMixed.ne_str_bool (d_9 I q (by simp))
  |int j=>obtain⟨t',rfl⟩:=ry;exact PySem.EqMixed.ne_str_int (d_9 I q (by simp))
  |str j=>obtain⟨t',rfl⟩:=ry;exact ne_str (d_9 I q (congrArg not bv_8))
  |_=>exact absurd (show false=true from hs) Bool.false_ne_true
 |byt i=>
  obtain⟨t,rfl⟩:=rx;cases y with
  |byt j=>obtain⟨t',rfl⟩:=ry;exact ne_bytes (d_9 I q (congrArg not bv_9))
  |_=>exact absurd (show false=true from hs) Bool.false_ne_true
 |_=>cases y <;> exact absurd (show false=true from hs) Bool.false_ne_true
theorem dm_7:OpR X (compareOp .Lt) (rI0 fun i j=> .bl (decide (i < j))):=opB0 fun _ _ _ _ _ _ _ q=>lt_int q
theorem dm_8:OpR X (compareOp .LtE) (rI0 fun i j=> .bl (decide (i≤j))):=opB0 fun _ _ _ _ _ _ _ q=>le_int q
theorem dm_9:OpR X (compareOp .Gt) (rI0 fun i j=> .bl (decide (j < i))):=opB0 fun _ _ _ _ _ _ _ q=>gt_int q
theorem cc_3:OpR X (compareOp .In) (fun x y H Q=>∃i j,x= .str i∧y= .str j∧Q (.bl (!(Builtin.Str.occurrences j i 0 j.length 1).isEmpty)) H):=by
 intro zd s σ H x y v u Q I rx ry h;obtain⟨i,j,rfl,rfl,q⟩:=h;obtain⟨t,rfl⟩:=rx;obtain⟨t',rfl⟩:=ry;exact in_str (d_9 I q rfl)
theorem ct_1:OpR X (compareOp .IsNot) (fun x y H Q=>y= .non∧Q (.bl (!decide (x= .non))) H):=by
 intro zd s σ H x y v u Q I rx ry h;obtain⟨rfl,q⟩:=h;cases ry;refine isnot_none_gen (d_9 I q ?_);cases x <;> first
  |(cases rx;rfl)
  |(obtain⟨t,rfl⟩:=rx;rfl)
theorem OpR.or{f:Value→Value→Sem Value}{r r':R2}(h:OpR X f r)(h':OpR X f r'):OpR X f (fun x y H Q=>r x y H Q∨r' x y H Q):=by
 intro zd s σ H x y v u Q I rx ry q;rcases q with q|q
 ·exact h zd s σ H x y v u Q I rx ry q
 ·exact h' zd s σ H x y v u Q I rx ry q
theorem d_7(b:Expr){op:CmpOp}(h:op≠ .In:=by decide)(h2:op≠ .NotIn:=by decide):behindInMarks op b=false:=by
 have e1:(op ==CmpOp.In)=false:=by cases op <;> first|rfl|exact absurd rfl h
 have e2:(op ==CmpOp.NotIn)=false:=by cases op <;> first|rfl|exact absurd rfl h2
 cases b <;> simp [behindInMarks,e1,e2]
theorem ct_2{op:CmpOp}{r:R2}(ho:OpR X (compareOp op) r)(ha:PE X a ta)(hb:PE X b tb)(hm:behindInMarks op b=false):PE X (.Compare a [op] [b] pos) (tOp r ta tb):=by
 intro zd s σ H Q I h;exact wpAny_Compare1 (binT ha hb I h fun v u s2 x y H2 I2 rx ry q=>ho zd s2 σ H2 x y v u Q I2 rx ry q) hm
def dn_0(t:TE):TT:=fun σ H Q=>t σ H fun x H'=>∃k,x= .bl k∧Q k H'
theorem bw_0{op:CmpOp}{r:R2}(ho:OpR X (compareOp op) r)(ha:PE X a ta)(hb:PE X b tb)(hm:behindInMarks op b=false):PT X (.Compare a [op] [b] pos) (dn_0 (tOp r ta tb)):=by
 intro zd s σ H Q I h;refine wpAny_isTrue_Compare1 (thn (ha zd s σ H _ I h) fun v s1 ⟨x,H1,I1,r1,q1⟩=>thn (hb zd s1 σ H1 _ I1 q1) fun u s2 ⟨y,H2,I2,r2,q2⟩=>
  thn (ho zd s2 σ H2 x y v u _ I2 r1 r2 q2) fun c s3 ⟨z,H3,I3,r3,k,e,q3⟩=> ?_) hm
 subst e;cases r3;exact wpAny_truthy_bool ⟨H3,I3,q3⟩
def ci_9(r r':R2)(ta tb tc:TE):TE:=fun σ H Q=>ta σ H fun x H1=>tb σ H1 fun y H2=>r x y H2 fun z H3=>∃k,z= .bl k∧
 (if k=true then tc σ H3 fun w' H4=>r' y w' H4 Q else Q (.bl false) H3)
theorem cj_0{op op':CmpOp}{r r':R2}(ho:OpR X (compareOp op) r)(ho':OpR X (compareOp op') r')(ha:PE X a ta)(hb:PE X b tb)(hc:PE X c tc)
  (hm:lastMarks [op,op'] [b,c]=false:=by with_unfolding_all rfl):PE X (.Compare a [op,op'] [b,c] pos) (ci_9 r r' ta tb tc):=by
 intro zd s σ H Q I h;refine Compare_chain (thn (ha zd s σ H _ I h) fun v s1 ⟨x,H1,I1,r1,q1⟩=>chain_link (thn (hb zd s1 σ H1 _ I1 q1) fun u s2 ⟨y,H2,I2,r2,q2⟩=>
  thn (ho zd s2 σ H2 x y v u _ I2 r1 r2 q2) fun d s3 ⟨z,H3,I3,r3,k,e,q3⟩=> ?_)) hm
 subst e;cases r3;refine wpAny_truthy_bool ?_;cases k with
 |false=>exact ite_ff ⟨.bl false,H3,I3,rfl,q3⟩
 |true=>exact ite_tt (chain_last (thn (hc zd s3 σ H3 _ I3 q3) fun w' s4 ⟨z',H4,I4,r4,q4⟩=>ho' zd s4 σ H4 y z' u w' Q I4 r2 r4 q4))
def TruV(K:Frag)(x:V)(H:Hp)(k:Bool):Prop:=
 match x with
 | .non=>k=false
 | .bl b=>k=b
 | .int i=>k=(i != 0)
 | .str y=>y.length≤sizeLine∧k=((y.length:Int) != 0)
 | .byt y=>y.size≤sizeLine∧k=((y.size:Int) != 0)
 | .ref p=>(∃xs,SqL K H p xs∧k= !xs.isEmpty)∨(∃xs,SqT K H p xs∧k= !xs.isEmpty)∨∃kvs,H p=some (.dK kvs)∧k= !kvs.isEmpty
 |_=>False
theorem bp_6{κ:Type}{kvs:List (κ×V)}{vs:List (κ×Value)}(r:KV kvs vs):(!vs.isEmpty)= !kvs.isEmpty:=by
 cases r <;> rfl
theorem ao_7{xs:List V}{its:List Value}(r:Vals xs its):(!its.toArray.isEmpty)= !xs.isEmpty:=by
 cases r <;> simp
theorem ah_7:(sizeLine:Nat) < 2 ^ 63:=by rw [sizeLine_eq];decide
theorem df_1:TruR X (fun x H Q=>∃k,TruV X.K x H k∧Q k H):=by
 intro zd s σ H x v Q I rx h;obtain⟨k,e,q⟩:=h;have hl:=ah_7;have hs:sizeLine=16777216:=sizeLine_eq;cases x with
 |non=>
  cases rx;have e':k=false:=e;subst e';exact truthy_none ⟨H,I,q⟩
 |bl b=>
  cases rx;have e':k=b:=e;subst e';exact wpAny_truthy_bool ⟨H,I,q⟩
 |int i=>
  obtain⟨t,rfl⟩:=rx;have e':k=(i != 0):=e;subst e';exact PySem.P.truthy_int ⟨H,I,q⟩
 |str y=>
  obtain⟨t,rfl⟩:=rx;obtain⟨hy,e'⟩:y.length≤sizeLine∧k=((y.length:Int) != 0):=e;subst e';exact PySem.P.truthy_str (by omega) ⟨H,I.tok _,q⟩
 |byt y=>
  obtain⟨t,rfl⟩:=rx;obtain⟨hy,e'⟩:y.size≤sizeLine∧k=((y.size:Int) != 0):=e;subst e';exact truthy_bytes (by omega) ⟨H,I.tok _,q⟩
 |ref p=>
  cases rx;have e':(∃xs,SqL X.K H p xs∧k= !xs.isEmpty)∨(∃xs,SqT X.K H p xs∧k= !xs.isEmpty)∨∃kvs,H p=some (.dK kvs)∧k= !kvs.isEmpty:=e;rcases e' with⟨xs,hx,e'⟩|⟨xs,hx,e'⟩|⟨kvs,hx,e'⟩
  ·subst e';obtain⟨its,r,pl,hz⟩:=I.list hx;have zk:=r.length;exact wpAny_truthy_list pl.isList (by simp only [List.size_toArray];omega) ⟨H,I.tok _,by rw [ao_7 r];exact q⟩
  ·subst e';obtain⟨its,r,pl,hz⟩:=I.tuple hx;have zk:=r.length;exact truthy_tuple pl (by simp only [List.size_toArray];omega) ⟨H,I.tok _,by rw [ao_7 r];exact q⟩
  ·subst e';obtain⟨hz,hS,vs,r,m⟩:kvs.length≤sizeLine∧(p ==sysModules)=false∧∃vs,KV kvs vs∧s.heap.DictOf (e_1 X.prog X.w) p vs:=I.hok p _ hx;have zk:kvs.length=vs.length:=Paired.length r;exact wpAny_truthy_dict hS m (by omega) ⟨H,I.tok _,by rw [bp_6 r];exact q⟩
 |_=>exact(show False from e).elim
theorem bh_0(ha:PE X a ta)(he:∀whole,isTrue a X.env whole=(do let v←whole;standAt a.pos;holding [v] (truthy v))):
  PT X a (fun σ H Q=>ta σ H fun x H'=>∃k,TruV X.K x H' k∧Q k H'):=by
 intro zd s σ H Q I h;exact isTrue_plain (thn (ha zd s σ H _ I h) fun v s1 ⟨x,H1,I1,r1,q1⟩=>df_1 zd s1 σ H1 x v Q I1 r1 q1) (he _)
theorem bp_7:OpR X (binaryOp .Add) (fun x y H Q=>∃i j,x= .str i∧y= .str j∧i.length + j.length≤sizeLine∧Q (.str (i ++ j)) H):=by
 intro zd s σ H x y v u Q I rx ry h;obtain⟨i,j,rfl,rfl,hz,q⟩:=h;obtain⟨t,rfl⟩:=rx;obtain⟨t',rfl⟩:=ry;exact add_str (fun t' tk=>⟨.str (i ++ j),H,I.tok _,⟨_,rfl⟩,q⟩) hz
theorem bw_1{x:V}{us:List Value}(r:Vals [x] us):∃u,us= [u]∧RelV x u:=by
 cases r with
 |cons r1 r2=>cases r2;exact⟨_,rfl,r1⟩
theorem db_9{x y:V}{us:List Value}(r:Vals [x,y] us):∃u w',us= [u,w']∧RelV x u∧RelV y w':=by
 cases r with
 |cons r1 r2=>
  cases r2 with
  |cons r3 r4=>cases r4;exact⟨_,_,rfl,r1,r3⟩
theorem cc_4(hc:X.calm=true):CallR X (.builtin "max") (fun xs H Q=>∃i j,xs= [.int i, .int j]∧Q (.int (if j > i then j else i)) H):=by
 intro zd s σ H xs us Q I r h;obtain⟨i,j,rfl,q⟩:=h;obtain⟨u,w',rfl,⟨t,rfl⟩,⟨t',rfl⟩⟩:=db_9 r;refine max_two_ints (I.ok.hd hc) fun h' tk k=>⟨_,H,I.kept k, ?_,q⟩
 by_cases hj:j > i
 ·rw [if_pos hj,if_pos hj];exact⟨_,rfl⟩
 ·rw [if_neg hj,if_neg hj];exact⟨_,rfl⟩
theorem cc_5(hc:X.calm=true):CallR X (.builtin "min") (fun xs H Q=>∃i j,xs= [.int i, .int j]∧Q (.int (if j < i then j else i)) H):=by
 intro zd s σ H xs us Q I r h;obtain⟨i,j,rfl,q⟩:=h;obtain⟨u,w',rfl,⟨t,rfl⟩,⟨t',rfl⟩⟩:=db_9 r;refine min_two_ints (I.ok.hd hc) fun h' tk k=>⟨_,H,I.kept k, ?_,q⟩
 by_cases hj:j < i
 ·rw [if_pos hj,if_pos hj];exact⟨_,rfl⟩
 ·rw [if_neg hj,if_neg hj];exact⟨_,rfl⟩
end
structure ObjM(h:Heap)(x dx C:Addr)(mA:Str→Option Value):Prop where
 obj:h.get? x=some (instObj C dx)
 ns:h.Ns1 dx mA
 ne:dx≠x
theorem aw_1{h:Heap}{dx:Addr}{mA:Str→Option Value}(n:h.Ns1 dx mA):∃od,h.get? dx=some od∧∀name,lookIn name od=some (mA name):=by
 obtain⟨o,es,ep,ho,hd,hk,_,hm⟩:=n;refine⟨o,ho,fun name=> ?_⟩;have e:=hm name;unfold nsFind findBy at e;rw [←Array.find?_toList] at e;unfold lookIn;rw [hd];dsimp only
 split
 ·rename_i y q;rw [q] at e;exact congrArg some e
 ·rename_i q;rw [q] at e;have a:es.toList.any (·.refKey)=false:=by
   rw [List.any_eq_false];intro y hy;obtain⟨z,t,di⟩:=hk y (Array.mem_toList_iff.mp hy);simp [DictEntry.refKey,di]
  have a':¬es.toList.any (·.refKey)=true:=by rw [a];exact Bool.false_ne_true
  rw [if_neg a'];exact congrArg some e
theorem ObjM.look{h:Heap}{x dx C:Addr}{mA:Str→Option Value}(I:ObjM h x dx C mA):∃od,InstAt h x (instObj C dx) C (some od)∧∀name,lookIn name od=some (mA name):=
 let⟨od,ho,hl⟩:=aw_1 I.ns
 ⟨od,⟨I.obj,rfl,rfl,ho⟩,hl⟩
section
variable{prog:Program}{w:World}{A:Around}{E:Value→Shared→Prop}{s:Shared}{K:Frag}{x dx C f:Addr}{mA:Str→Option Value}{name:Str}{v:Value}
theorem ct_3{expr:Bool}{Q:Value→Shared→Prop}(X:K.In s.heap)(I:ObjM s.heap x dx C mA)(hg:plainGet K C name=true)(hh:hasDictIn K C=true)
  (ha:findIn K (.ref C) name=some none) (hv:mA name=some v) (hv':handedIn v=true) (h:Q v {s with toks:=s.toks + 1}):
  wpAny (model prog w) A (getAttr (.ref x) name expr) Q E s:=by
 obtain⟨od,J,hl⟩:=I.look;exact get_value X J (plainGet_of hg).1 (findObj_own hh ha rfl (by rw [hl,hv])) hv' h
theorem cj_1{pl:Sem Bool}{Q:Value×List Value→Shared→Prop}(X:K.In s.heap)(I:ObjM s.heap x dx C mA)(hg:plainGet K C name=true)
  (hf:findIn K (.ref C) name=some (some (.ref f))) (ht:isFn K (.ref f)=true) (hv:mA name=none) (h:Q (.ref f, [.ref x]) s):
  wpAny (model prog w) A (getMethod (.ref x) name pl) Q E s:=by
 obtain⟨od,J,hl⟩:=I.look;exact method_fn X J (plainGet_of hg).1 (plainGet_of hg).2 hf (beq_iff_eq.mp ht) (by show(lookIn name od).map (·.isSome)=some false;rw [hl,hv];rfl) h
theorem ct_4{ns:List Str}{Q:Unit→Shared→Prop}(X:K.In s.heap)(I:ObjM s.heap x dx C mA)
  (hs:findIn K (.ref C) "__setattr__" =some (some (.builtin "object.__setattr__"))) (hp:plainOver K C=true) (ht:takerIn K C name=some none) (hh:hasDictIn K C=true)
  (hw:PySem.Within mA ns) (hsz:ns.length≤sizeLine)
  (h:∀h',ObjM h' x dx C (fun y=>if y=name then some v else mA y)→Heap.SameBut dx s.heap h'→Q () {s with heap:=h',toks:=s.toks + 2}):
  wpAny (model prog w) A (setAttr (.ref x) name v) Q E s:=by
 obtain⟨od,J,hl⟩:=I.look;refine set_plain X J hs (osa_open (s:={s with toks:=s.toks + 1}) (r:=none) X J hp ht fun b=> ?_);obtain⟨cd,hc,hd'⟩:=any_some hh;have hx:s.heap.get? x=some ⟨.ref C,some dx, .plain, #[]⟩:=I.obj;refine wpAny_bind (wpAny_pure (wpAny_bind (wpAny_bind (wpAny_loadPart hx (wpAny_bind (Looks.here (s:={s with toks:=s.toks + 1}) (looks_clsIn X hc) ?_))))));rw [hd'];refine wpAny_pure (a:=some dx) (wpAny_bind (wpAny_pure (wpAny_bind ?_)));refine wpAny_nsSet1 (s:={s with toks:=s.toks + 1}) I.ns fun h' hn2 hs2=> ?_;obtain⟨oD,esD,epD,hoD,hdD,hcD⟩:=hn2.count (PySem.Within.cons name v hw);refine wpAny_bind (wpAny_lookBehind hoD (by rw [hdD];exact pastItsLine_dict (Nat.le_trans hcD (by rw [List.length_cons];omega))) ?_);exact wpAny_pure (h _ ⟨(hs2.2 _ (Ne.symm I.ne)).trans I.obj,hn2,I.ne⟩ hs2)
theorem cj_2{R:Result→Shared→Prop}{vs:List Value}{kw:List (Str×Value)}(X:K.In s.heap)(hm:makesIn K C=true)
  (hi:findIn K (.ref C) "__init__" =some (some (.ref f))) (hf:typeIn K (.ref f)=some (.type "function"))
  (h:codeAny (model prog w) (A.under (.builtin "type.__call__" ⟨.ref C::vs,kw⟩)) (.call (.ref f) ⟨.ref (s.heap.objs.size + 1)::vs,kw⟩) (InitBack (s.heap.objs.size + 1) R)
   {s with heap:=(s.heap.push emptyDict).push (instObj C s.heap.objs.size)}):
  codeAny (model prog w) A (.call (.ref C) ⟨vs,kw⟩) R s:=by
 obtain⟨hh,g,d,t,os⟩:=s;exact make_core (makes_of X hm) (looks_findIn X hi) (fun self=>bind_fn X self hf) (.inl rfl) h
end
def s_6(f:Str)(v:V):List (Str×V)→List (Str×V)
 | []=> [(f,v)]
 |(g,x)::r=>if g=f then(g,v)::r else(g,x)::s_6 f v r
theorem ak_1(f g:Str)(v:V):∀fs:List (Str×V),(s_6 f v fs).lookup g=if g=f then some v else fs.lookup g
 | []=>by
  show List.lookup g [(f,v)]=_
  by_cases h:g=f
  ·have hb:(g ==f)=true:=beq_iff_eq.mpr h;simp only [List.lookup,hb,if_pos h]
  ·have hb:(g ==f)=false:=beq_eq_false_iff_ne.mpr h;simp only [List.lookup,hb,if_neg h]
 |(k,x)::r=>by
  have ih:=ak_1 f g v r;rw [show s_6 f v ((k,x)::r)=(if k=f then(k,v)::r else(k,x)::s_6 f v r) from rfl]
  by_cases hk:k=f
  ·rw [if_pos hk]
   by_cases h:g=k
   ·have hb:(g ==k)=true:=beq_iff_eq.mpr h;simp only [List.lookup,hb,if_pos (h.trans hk)]
   ·have hb:(g ==k)=false:=beq_eq_false_iff_ne.mpr h;simp only [List.lookup,hb,if_neg (fun e:g=f=>h (e.trans hk.symm))]
  ·rw [if_neg hk]
   by_cases h:g=k
   ·have hb:(g ==k)=true:=beq_iff_eq.mpr h;simp only [List.lookup,hb,if_neg (fun e:g=f=>hk (h.symm.trans e))]
   ·have hb:(g ==k)=false:=beq_eq_false_iff_ne.mpr h;simp only [List.lookup,hb];exact ih
theorem ah_8(f:Str)(v:V):∀fs:List (Str×V),f∈(s_6 f v fs).map (·.1)∧∀g,g∈fs.map (·.1)→g∈(s_6 f v fs).map (·.1)
 | []=>⟨by simp [s_6],fun g h=>by simp at h⟩
 |(k,x)::r=>by
  obtain⟨i1,i2⟩:=ah_8 f v r;rw [show s_6 f v ((k,x)::r)=(if k=f then(k,v)::r else(k,x)::s_6 f v r) from rfl]
  by_cases hk:k=f
  ·rw [if_pos hk];subst hk;exact⟨by simp,fun g h=>by simpa using h⟩
  ·rw [if_neg hk];refine⟨?_,fun g h=> ?_⟩
   ·rw [List.map_cons];exact List.mem_cons_of_mem _ i1
   ·rw [List.map_cons] at h⊢;rcases List.mem_cons.mp h with e|e
    ·exact List.mem_cons.mpr (.inl e)
    ·exact List.mem_cons_of_mem _ (i2 g e)
theorem ak_2(f:Str)(v:V):∀fs:List (Str×V),(s_6 f v fs).length≤fs.length + 1
 | []=>by simp [s_6]
 |(k,x)::r=>by
  have ih:=ak_2 f v r;rw [show s_6 f v ((k,x)::r)=(if k=f then(k,v)::r else(k,x)::s_6 f v r) from rfl]
  by_cases hk:k=f
  ·rw [if_pos hk,List.length_cons,List.length_cons];omega
  ·rw [if_neg hk,List.length_cons,List.length_cons];omega
theorem RelO.some_of{v:V}{o:Option Value}(r:RelO (some v) o):∃u,o=some u∧RelV v u:=by
 cases o with
 |none=>exact(show False from r).elim
 |some u=>exact⟨u,rfl,r⟩
theorem RelO.none_of{o:Option Value}(r:RelO none o):o=none:=by
 cases o with
 |none=>rfl
 |some u=>exact(show False from r).elim
theorem aw_2{v:V}{u:Value}(r:RelV v u):handedIn u=true:=by
 cases v with
 |non=>cases(show u=Value.none from r);rfl
 |bl b=>cases(show u=Value.bool b from r);rfl
 |int i=>obtain⟨t,e⟩:=(show∃t,u=Value.int i t from r);cases e;rfl
 |str x=>obtain⟨t,e⟩:=(show∃t,u=Value.str x t from r);cases e;rfl
 |byt b=>obtain⟨t,e⟩:=(show∃t,u=Value.bytes b t from r);cases e;rfl
 |flt b=>obtain⟨t,e⟩:=(show∃t,u=Value.float b t from r);cases e;rfl
 |ref a=>cases(show u=Value.ref a from r);rfl
 |ty n=>cases(show u=Value.type n from r);rfl
section
variable{P:Program}{w:World}{H H':Hp}{h h':Heap}{a C dx:Addr}{fs fs':List (Str×V)}
theorem ba_7(hok:HOk P w H h)(e:H a=some (.ins C dx fs)):∃mA,ObjM h a dx C mA∧(∀f,RelO (fs.lookup f) (mA f))∧PySem.Within mA (fs.map (·.1))∧fs.length≤1000∧H dx=some (.own a):=by
 obtain⟨d,z,ne,ob,mA,n,r,q⟩:=(show ObjOk P w H h a (.ins C dx fs) from hok a _ e);exact⟨mA,⟨ob,n,ne⟩,r,q,z,d⟩
end
structure Cls(K:Frag)(C:Addr):Prop where
 pg:plainGet K C Str.empty=true
 hd:hasDictIn K C=true
 po:plainOver K C=true
 sa:findIn K (.ref C) "__setattr__" =some (some (.builtin "object.__setattr__"))
theorem Cls.get{K:Frag}{C:Addr}(c:Cls K C)(f:Str):plainGet K C f=true:=c.pg
def NoAttr(K:Frag)(C:Addr)(f:Str):Prop:=findIn K (.ref C) f=some none
theorem NoAttr.taker{K:Frag}{C:Addr}{f:Str}(n:NoAttr K C f):takerIn K C f=some none:=by
 unfold takerIn;rw [show findIn K (.ref C) f=some none from n];rfl
structure Con(K:Frag)(C:Addr)(f:Str)(v:V)(u:Value):Prop where
 at_:findIn K (.ref C) f=some (some u)
 rel:RelV v u
 get:specialIn K u "__get__" =some none
 cp:PySem.W.copiedNames.contains f=false
structure Meth(K:Frag)(C:Addr)(m:Str)(f:Addr):Prop where
 at_:findIn K (.ref C) m=some (some (.ref f))
 fn:isFn K (.ref f)=true
 kp:keepIn K (.ref f)=true
section
variable{X:Cx}{zd:List (Addr×Obj)}{σ:St}{H:Hp}{s:Shared}{a C dx:Addr}{fs:List (Str×V)}{f:Str}{v:V}{A:Around}{E:Value→Shared→Prop}
theorem bp_8{b:Bool}{Q:Value→Shared→Prop}(I:Inv X zd σ H s)(e:H a=some (.ins C dx fs))(c:Cls X.K C)(n:NoAttr X.K C f)(l:fs.lookup f=some v)
  (h:∀u s',Inv X zd σ H s'→RelV v u→Q u s'):wpAny (model X.prog X.w) A (getAttr (.ref a) f b) Q E s:=by
 obtain⟨mA,O,r,_,_,_⟩:=ba_7 I.hok e;obtain⟨u,hu,ru⟩:=RelO.some_of (v:=v) (o:=mA f) (by rw [←l];exact r f);exact ct_3 I.kIn O (c.get f) c.hd n hu (aw_2 ru) (h u _ (I.tok _) ru)
theorem ao_8{m:Str}{g:Addr}{pl:Sem Bool}{Q:Value×List Value→Shared→Prop}(I:Inv X zd σ H s)(e:H a=some (.ins C dx fs))(c:Cls X.K C)(k:Meth X.K C m g)(l:fs.lookup m=none)
  (h:Q (.ref g, [.ref a]) s):wpAny (model X.prog X.w) A (getMethod (.ref a) m pl) Q E s:=by
 obtain⟨mA,O,r,_,_,_⟩:=ba_7 I.hok e;have hn:mA m=none:=RelO.none_of (by rw [←l];exact r m);exact cj_1 I.kIn O (c.get m) k.at_ k.fn hn h
theorem bp_9{y:V}{u:Value}{Q:Unit→Shared→Prop}(I:Inv X zd σ H s)(e:H a=some (.ins C dx fs))(c:Cls X.K C)(n:NoAttr X.K C f)(hl:fs.length < 1000)(ry:RelV y u)
  (h:∀s',Inv X zd σ (upd H a (.ins C dx (s_6 f y fs))) s'→Q () s'):wpAny (model X.prog X.w) A (setAttr (.ref a) f u) Q E s:=by
 obtain⟨mA,O,r,wi,_,ho⟩:=ba_7 I.hok e;have hz:(fs.map (·.1)).length≤sizeLine:=by rw [List.length_map,sizeLine_eq];omega
 refine ct_4 I.kIn O c.sa c.po n.taker c.hd wi hz fun h' O' sb=>h _ ?_;have hd:∃o,h'.get? dx=some o:=let⟨o,_,_,e',_⟩:=O'.ns;⟨o,e'⟩;refine I.write (x:=a) (e:=dx) (by rw [e];exact True.intro) (.inr ho) (fun b q hb z=>(sb.2 b hb).trans z) hd ?_;refine⟨by rw [a_5 O.ne];exact ho, ?_,O.ne,O'.obj,_,O'.ns,fun g=> ?_,fun g hg=> ?_⟩
 ·have:=ak_2 f y fs;omega
 ·show RelO ((s_6 f y fs).lookup g) (if g=f then some u else mA g);rw [ak_1]
  by_cases q:g=f
  ·rw [if_pos q,if_pos q];exact ry
  ·rw [if_neg q,if_neg q];exact r g
 ·by_cases q:g=f
  ·rw [q];exact(ah_8 f y fs).1
  ·refine(ah_8 f y fs).2 g (wi g fun z=>hg ?_);show(if g=f then some u else mA g)=none;rw [if_neg q];exact z
theorem Inv.made(I:Inv X zd σ H s):Inv X zd σ (upd (upd H s.heap.objs.size (.own (s.heap.objs.size + 1))) (s.heap.objs.size + 1) (.ins C s.heap.objs.size []))
  {s with heap:=(s.heap.push emptyDict).push (instObj C s.heap.objs.size)}:=by
 have e1:(s.heap.push emptyDict).get? s.heap.objs.size=some emptyDict:=Heap.get?_push_size s.heap rfl;have e2:((s.heap.push emptyDict).push (instObj C s.heap.objs.size)).get? (s.heap.objs.size + 1)=some (instObj C s.heap.objs.size):=by
  have:=Heap.get?_push_size (s.heap.push emptyDict) (o:=instObj C s.heap.objs.size) rfl
  rwa [Heap.size_push] at this
 have e3:(s.heap.push emptyDict).Ns s.heap.objs.size (fun _=>none):=⟨emptyDict, #[],_,e1,rfl,(fun e he=>absurd he (by simp)),fun _=>rfl⟩;have I1:=I.laid (a:=s.heap.objs.size) (o:= .own (s.heap.objs.size + 1)) (h':=s.heap.push emptyDict) (t':=s.toks) (fun b u q=>Heap.get?_push_of_some _ q) (Nat.le_refl _) ⟨_,e1⟩;refine I1.laid (a:=s.heap.objs.size + 1) (o:= .ins C s.heap.objs.size []) (t':=s.toks) (fun b u q=>Heap.get?_push_of_some _ q) (Nat.le_of_eq (Heap.size_push _ _)) ?_;have ne:s.heap.objs.size≠s.heap.objs.size + 1:=Nat.ne_of_lt (Nat.lt_succ_self _);refine⟨by rw [a_5 ne,a_9],Nat.zero_le _,ne,e2,fun _=>none,(Heap.Ns1.of_empty e3).at fun o q=>Heap.get?_push_of_some _ q,fun _=>True.intro,fun y hy=>absurd rfl hy⟩
theorem bw_2{prog:Program}{w:World}{env:Env}{e:Expr}{f:Str}{pos:Pos}{s:Shared}{Q:Value→Shared→Prop}(hb:attributeBase e f env (eval e env)=eval e env)
  (h:wpAny (model prog w) A (eval e env) (fun o s₁=>wpAny (model prog w) A (getAttr o f true) Q E s₁) E s):wpAny (model prog w) A (eval (.Attribute e f pos) env) Q E s:=
 Attribute_any_ h (by rw [arm_eval_Attribute,hb])
end
def tFld(K:Frag)(ta:TE)(f:Str):TE:=fun σ H Q=>ta σ H fun x H1=>∃a C dx fs v,x= .ref a∧H1 a=some (.ins C dx fs)∧Cls K C∧NoAttr K C f∧fs.lookup f=some v∧Q v H1
def sFld(K:Frag)(ta tv:TE)(f:Str):TS:=fun D σ H=>tv σ H fun y H1=>ta σ H1 fun x H2=>∃a C dx fs,x= .ref a∧H2 a=some (.ins C dx fs)∧Cls K C∧NoAttr K C f∧fs.length < 1000∧
 D.nx σ (upd H2 a (.ins C dx (s_6 f y fs)))
section
variable{X:Cx}{o e value:Expr}{f:Str}{pos pos' zh:Pos}{ta tv:TE}
theorem bq_0(he:PE X e ta)(hb:attributeBase e f X.env (eval e X.env)=eval e X.env):PE X (.Attribute e f pos) (tFld X.K ta f):=by
 intro zd s σ H Q I h;refine bw_2 hb (thn (he zd s σ H _ I h) fun u s1 ⟨x,H1,I1,rx,a,C,dx,fs,v,ex,ea,c,n,l,q⟩=> ?_);subst ex;obtain rfl:u=Value.ref a:=rx;exact bp_8 I1 ea c n l fun u' s2 I2 ru=>⟨v,H1,I2,ru,q⟩
theorem bq_1(ha:PE X o ta)(hv:PE X value tv)(hs:swapsWith value (some (.Attribute o f pos')) pos.line X.env=pure false):PS X (.Assign [.Attribute o f pos'] value pos) (sFld X.K ta tv f):=by
 intro zd s σ H D I h;refine plainObj_wpAny_Assign_Attribute (thn (hv zd s σ H _ I h) fun u s1 ⟨y,H1,I1,ry,q⟩=>thn (ha zd s1 σ H1 _ I1 q) fun ov s2 ⟨x,H2,I2,rx,a,C,dx,fs,ex,ea,c,n,l,q2⟩=> ?_) hs;subst ex;obtain rfl:ov=Value.ref a:=rx;exact bp_9 I2 ea c n l ry fun s3 I3=>⟨σ,_,I3,q2⟩
end
section
variable{X:Cx}{zd:List (Addr×Obj)}{σ:St}{H:Hp}{s:Shared}{A:Around}{E:Value→Shared→Prop}{Q:Value→Shared→Prop}{c:Value}{b:Bool}
inductive TyOf(K:Frag)(H:Hp):V→Value→Prop where
 |non:TyOf K H .non (.type "NoneType")
 |bl (x:Bool):TyOf K H (.bl x) (.type "bool")
 |int (i:Int):TyOf K H (.int i) (.type "int")
 |str (x:Str):TyOf K H (.str x) (.type "str")
 |flt (x:UInt64):TyOf K H (.flt x) (.type "float")
 |lst {a:Addr} {xs:List V} (e:H a=some (.lst xs)):TyOf K H (.ref a) (.type "list")
 |frz {a:Addr} {o:Obj} {xs:List V} (e:H a=some (.frz o (.lst xs))):TyOf K H (.ref a) (.type "list")
 |tup {a:Addr} {xs:List V} (e:H a=some (.tup xs)):TyOf K H (.ref a) (.type "tuple")
 |dK {a:Addr} {kvs:List (Key×V)} (e:H a=some (.dK kvs)):TyOf K H (.ref a) (.type "dict")
 |dT {a:Addr} {kvs:List (List Key×V)} (e:H a=some (.dT kvs)):TyOf K H (.ref a) (.type "dict")
 |ins {a C dx:Addr} {fs:List (Str×V)} (e:H a=some (.ins C dx fs)) (cl:Cls K C) (ha:findIn K (.ref C) "__class__" =some (some (.builtin "object.__class__")))
   (hn:specialIn K (.builtin "object.__class__") "__get__" =some (some (.builtin "getset_descriptor.__get__"))) (htk:takesIn K (.builtin "object.__class__")=some true)
   (hm:mroIn K C (.type "object")=some true):TyOf K H (.ref a) (.ref C)
end
structure Room(k:Nat)(A:Around):Prop where
 hd:A.handled=none
 dp:A.depth + 3 * k + 5 < recursionLimit
 un:A.units + 16 * k + 200 < cLine
theorem Room.in1{k:Nat}{A:Around}(r:Room (k + 1) A):Room k A.in1:=
 ⟨r.hd,by have:=r.dp;show A.depth + 3 * k + 5 < _;omega,by have:=r.un;show A.units + 1 + 16 * k + 200 < _;omega⟩
theorem bq_2{A:Around}{C:Addr}{us:List Value}{kw:List (Str×Value)}:(A.under (.builtin "type.__call__" ⟨.ref C::us,kw⟩)).depth=A.depth + 1:=by
 first|rfl|simp [Around.under,Code.weight,Code.isCreation,Code.isGuard,Code.isCaller,Code.frames,Code.isFrame,guardIds]
theorem bq_3{A:Around}{C:Addr}{us:List Value}{kw:List (Str×Value)}:(A.under (.builtin "type.__call__" ⟨.ref C::us,kw⟩)).units=A.units + 1:=by
 first|rfl|simp [Around.under,Code.cUnits,Code.frames,Code.isFrame]
theorem Room.depth{k:Nat}{A:Around}(r:Room k A):A.depth < recursionLimit:=by have:=r.dp;omega
def tNil:TA:=fun _ H Q=>Q [] H
def cj_3(ta:TE)(tr:TA):TA:=fun σ H Q=>ta σ H fun x H1=>tr σ H1 fun xs H2=>Q (x::xs) H2
section
variable{X:Cx}{e:Expr}{es:List Expr}{te:TE}{t:TA}{pos:Pos}
theorem m_7:PA X [] tNil:=fun _ _ _ _ H Q I h=>Calls.spliced_nil ⟨[],H,I, .nil,h⟩
theorem f_6(ha:PE X e te)(hr:PA X es t)(hs:starEach (e::es) X.env=(false,eval e X.env)::starEach es X.env:=by rfl):PA X (e::es) (cj_3 te t):=by
 intro pos zd s σ H Q I h;rw [hs];show wpAny _ _ (spliced ((false,eval e X.env)::backTo pos (starEach es X.env))) _ _ s;refine Calls.spliced_cons (thn (ha zd s σ H _ I h) fun u s1 ⟨x,H1,I1,r1,q1⟩=> ?_);exact thn (hr pos zd s1 σ H1 _ I1 q1) fun us s2 ⟨xs,H2,I2,r2,q2⟩=>⟨x::xs,H2,I2, .cons r1 r2,q2⟩
def tTup(t:TA):TE:=fun σ H Q=>t σ H fun xs H1=>xs.length≤sizeLine∧∀p,H1 p=none→Q (.ref p) (upd H1 p (.tup xs))
def tLst(t:TA):TE:=fun σ H Q=>t σ H fun xs H1=>xs.length≤sizeLine∧∀p,H1 p=none→Q (.ref p) (upd H1 p (.lst xs))
theorem cj_4{x1}(h:PA X es t):PE X (.Tuple es x1 pos) (tTup t):=by
 intro zd s σ H Q I hq;refine wpAny_Tuple_spliced (thn (h pos zd s σ H _ I hq) fun us s1 ⟨xs,H1,I1,r,z,q⟩=>⟨by rw [←r.length];exact z, ?_⟩);have hf:H1 s1.heap.objs.size=none:=I1.hok.fresh (Nat.le_refl _);refine⟨.ref s1.heap.objs.size,upd H1 s1.heap.objs.size (.tup xs),I1.laid (t':=s1.toks) (fun b u e=>Heap.get?_push_of_some _ e) (Nat.le_refl _) ?_,rfl,q _ hf⟩;exact⟨z,us,r,⟨_,Heap.get?_push_size _ rfl,rfl,_,rfl⟩⟩
theorem bq_4(h:PA X es t):PE X (.List es pos) (tLst t):=by
 intro zd s σ H Q I hq;refine wpAny_List_spliced (thn (h pos zd s σ H _ I hq) fun us s1 ⟨xs,H1,I1,r,z,q⟩=>⟨by rw [←r.length];exact z, ?_⟩);have hf:H1 s1.heap.objs.size=none:=I1.hok.fresh (Nat.le_refl _);refine⟨.ref s1.heap.objs.size,upd H1 s1.heap.objs.size (.lst xs),I1.laid (t':=s1.toks) (fun b u e=>Heap.get?_push_of_some _ e) (Nat.le_refl _) ?_,rfl,q _ hf⟩;exact⟨z,us,0,r,Heap.get?_push_size _ rfl⟩
end
abbrev Sp:=List V→Hp→VK→XK→Prop
abbrev CXT:=List Env→Hp→Shared→XK→Value→Shared→Prop
structure Env0(P:Program)(w:World)(K:Frag)(mg:Str→Option Value)(base:Heap)(A:Around)(outer:List Env)(s:Shared)(H:Hp):Prop where
 frames:A.frames=some outer
 mod:Mod K mg base
 bs:∀b o,base.get? b=some o→s.heap.get? b=some o∧H b=none
 bsz:base.objs.size≤s.heap.objs.size
 funs:s.heap.FunFrames base outer
 frf:∀b∈frs outer,H b=none
 hok:HOk P w H s.heap
 bare:AllBare s.gens
def CE(outer:List Env)(P:Program)(w:World)(H:Hp)(s:Shared)(Q:VK)(u:Value)(s':Shared):Prop:=
 ∃v H',s'.os=s.os∧AllBare s'.gens∧Un (frs outer) [] H H' s.heap s'.heap∧HOk P w H' s'.heap∧RelV v u∧Q v H'
def CR(CX:CXT)(outer:List Env)(P:Program)(w:World)(H:Hp)(s:Shared)(Q:VK)(E:XK)(r:Result)(s':Shared):Prop:=
 match r with
 | .ok (.ret u)=>CE outer P w H s Q u s'
 | .ok _=>False
 | .error e=>CX outer H s E e s'
structure FnOk(P:Program)(w:World)(K:Frag)(mg:Str→Option Value)(base:Heap)(CX:CXT)(k:Nat)(f:Addr)(fd:FuncData)(ps:List Str)(sp:Sp):Prop where
 len:∀vs H Q E,sp vs H Q E→vs.length=ps.length
 run:∀(A:Around) (outer:List Env) (s:Shared) (H:Hp) (args:Args) (us:List Value) (vs:List V) (Q:VK) (E:XK),Room k A→Env0 P w K mg base A outer s H→BindsTo s fd args (ps.zip us)→Vals vs us→sp vs H Q E→
  codeAny (model P w) A (.call (.ref f) args) (CR CX outer P w H s Q E) s
theorem Env0.make{P:Program}{w:World}{K:Frag}{mg:Str→Option Value}{base:Heap}{A:Around}{outer:List Env}{s:Shared}{H:Hp}(e:Env0 P w K mg base A outer s H)(C:Addr)(us:List Value)(kw:List (Str×Value)):
  Env0 P w K mg base (A.under (.builtin "type.__call__" ⟨.ref C::us,kw⟩)) outer s H:=⟨by first|exact e.frames|(simpa [Around.under,Code.envs,Code.isFrame,pushEnvs] using e.frames),e.mod,e.bs,e.bsz,e.funs,e.frf,e.hok,e.bare⟩
theorem Env0.in1{P:Program}{w:World}{K:Frag}{mg:Str→Option Value}{base:Heap}{A:Around}{outer:List Env}{s:Shared}{H:Hp}(e:Env0 P w K mg base A outer s H):
  Env0 P w K mg base A.in1 outer s H:=⟨e.frames,e.mod,e.bs,e.bsz,e.funs,e.frf,e.hok,e.bare⟩
section
variable{X:Cx}{zd:List (Addr×Obj)}{σ:St}{H:Hp}{s s':Shared}
theorem Inv.env0(I:Inv X zd σ H s):Env0 X.prog X.w X.K X.mg X.base X.A X.stack s H:=
 ⟨I.ok.frames,I.ok.mod,I.bs,Nat.le_trans I.ok.bsz I.sz,I.stack,I.stkFree,I.hok,I.bare⟩
theorem Inv.after{Q:VK}{u:Value}(I:Inv X zd σ H s)(h:CE X.stack X.prog X.w H s Q u s'):EP X zd σ Q u s':=by
 obtain⟨v,H',os,bare,un,hok,r,q⟩:=h;obtain⟨hh,g,d,t,os'⟩:=s';obtain rfl:os'=s.os:=os;exact⟨v,H',I.call (h':=hh) (g':=g) (d':=d) (t':=t) (ch:= []) un hok bare (fun b z=>absurd z (by simp)),r,q⟩
end
def Binds(K:Frag)(fd:FuncData)(ps:List Str)(ds:List Value):Prop:=
 ∀(s:Shared) (us:List Value),K.In s.heap→(us ++ ds).length=ps.length→BindsTo s fd ⟨us, []⟩ (ps.zip (us ++ ds))
theorem Binds.all{K:Frag}{fd:FuncData}{ps:List Str}(h:∀us:List Value,us.length=ps.length→bindArgs fd ⟨us, []⟩=pure (ps.zip us)):Binds K fd ps []:=fun s us _ hl=>by
 rw [List.append_nil] at hl⊢;exact .of_eq (h us hl)
section
variable{X:Cx}{CX:CXT}{k:Nat}{f C:Addr}{fd:FuncData}{ps:List Str}{sp:Sp}{dvs:List V}{ds:List Value}{E:XK}{x m:Str}{p pos zg:Pos}{e o:Expr}{es:List Expr}{ta:TE}{t:TA}
structure Mk(K:Frag)(C f:Addr):Prop where
 makes:makesIn K C=true
 init:findIn K (.ref C) "__init__" =some (some (.ref f))
 fn:isFn K (.ref f)=true
 kp:keepIn K (.ref C)=true
end
section
variable{X:Cx}{CX:CXT}{k:Nat}{f C:Addr}{fd:FuncData}{ps ks:List Str}{sp:Sp}{E:XK}{x m:Str}{p pos zg gk:Pos}{e o:Expr}{es:List Expr}{kws:List Keyword}{te ta:TE}{t tk:TA}{nm:Option Str}
structure KBinds(K:Frag)(fd:FuncData)(ps ks:List Str)(g:List Value→List Value→List Value)(gV:List V→List V→List V):Prop where
 to:∀(s:Shared) (us ws:List Value),K.In s.heap→(g us ws).length=ps.length→BindsTo s fd ⟨us,ks.zip ws⟩ (ps.zip (g us ws))
 rel:∀{vs:List V} {us:List Value} {zs:List V} {ws:List Value},Vals vs us→Vals zs ws→Vals (gV vs zs) (g us ws)
variable{g:List Value→List Value→List Value}{gV:List V→List V→List V}
end
structure FnScope(N P:List Str)(sc:Scope):Prop where
 kind:sc.kind= .function
 co:sc.isCoroutine=false
 gen:sc.isGenerator=false
 nd:N.Nodup
 pre:N.take P.length=P
 par:∀x∈P,sc.names.lookup x=some .local∨sc.names.lookup x=some .cell
 nofree:∀y∈sc.names,y.2≠ .free
theorem aw_3{kindOf:Str→Option NameKind}{x:Str}:∀{binds:List (Str×Value)} {m:Str→Option Value},(∀v,(x,v)∉binds)→bindL kindOf binds m x=m x
 | [],_,_=>rfl
 |(n,v)::r,m,h=>by
  unfold bindL;rw [aw_3 fun w hw=>h w (List.mem_cons_of_mem _ hw)]
  split
  ·have:x≠n:=by rintro rfl;exact h v List.mem_cons_self
   simp [this]
  ·rfl
theorem aw_4{kindOf:Str→Option NameKind}{x:Str}:∀{binds:List (Str×Value)} {m:Str→Option Value},(∀v,(x,v)∉binds)→bindC kindOf binds m x=m x
 | [],_,_=>rfl
 |(n,v)::r,m,h=>by
  unfold bindC;rw [aw_4 fun w hw=>h w (List.mem_cons_of_mem _ hw)]
  split
  ·rfl
  ·have:x≠n:=by rintro rfl;exact h v List.mem_cons_self
   simp [this]
theorem aw_5{kindOf:Str→Option NameKind}{x:Str}{v:Value}:∀{P:List Str} {vs:List Value} {i:Nat} {m:Str→Option Value},P.Nodup→P[i]? =some x→vs[i]? =some v→kindOf x=some .local→
  bindL kindOf (P.zip vs) m x=some v
 | [],_,_,_,_,h,_,_=>by simp at h
 |_::_, [],_,_,_,_,h,_=>by simp at h
 |p::P,w::vs,0,m,nd,h1,h2,hk=>by
  simp at h1 h2;subst h1;subst h2;show bindL kindOf ((p,w)::P.zip vs) m p=_;unfold bindL;rw [aw_3 fun v hv=>(List.nodup_cons.mp nd).1 (List.of_mem_zip hv).1,if_pos hk];simp
 |p::P,w::vs,i + 1,m,nd,h1,h2,hk=>by
  show bindL kindOf ((p,w)::P.zip vs) m x=_;unfold bindL;exact aw_5 (i:=i) (List.nodup_cons.mp nd).2 (by simpa using h1) (by simpa using h2) hk
theorem aw_6{kindOf:Str→Option NameKind}{x:Str}{v:Value}:∀{P:List Str} {vs:List Value} {i:Nat} {m:Str→Option Value},P.Nodup→P[i]? =some x→vs[i]? =some v→kindOf x≠some .local→
  bindC kindOf (P.zip vs) m x=some v
 | [],_,_,_,_,h,_,_=>by simp at h
 |_::_, [],_,_,_,_,h,_=>by simp at h
 |p::P,w::vs,0,m,nd,h1,h2,hk=>by
  simp at h1 h2;subst h1;subst h2;show bindC kindOf ((p,w)::P.zip vs) m p=_;unfold bindC;rw [aw_4 fun v hv=>(List.nodup_cons.mp nd).1 (List.of_mem_zip hv).1,if_neg hk];simp
 |p::P,w::vs,i + 1,m,nd,h1,h2,hk=>by
  show bindC kindOf ((p,w)::P.zip vs) m x=_;unfold bindC;exact aw_6 (i:=i) (List.nodup_cons.mp nd).2 (by simpa using h1) (by simpa using h2) hk
def p_4(N:List Str)(vs:List V):St:=vs.map some ++ List.replicate (N.length - vs.length) none
def cxOf(CX:CXT)(P:Program)(w:World)(K:Frag)(mg:Str→Option Value)(base:Heap)(N:List Str)(qual:Str)(scope:Scope)(f:Addr)(cd:Value)(A:Around)(outer:List Env)(s:Shared)(H:Hp)(E:XK):Cx where
 prog:=P
 w:=w
 K:=K
 mg:=mg
 base:=base
 A:=A.deeper (envOfC qual scope s.heap.objs.size f cd)
 N:=N
 s₀:=s
 H₀:=H
 env:=envOfC qual scope s.heap.objs.size f cd
 outer:=outer
 stack:=envOfC qual scope s.heap.objs.size f cd::outer
 ex:= []
 calm:=true
 fn:=fun _=>true
 pn:= []
 xe:=fun e s'=>wpAny (model P w) (A.deeper (envOfC qual scope s.heap.objs.size f cd)) (leaving (envOfC qual scope s.heap.objs.size f cd) e) (fun _ s''=>CX outer H s E e s'') (fun e' s''=>CX outer H s E e' s'') s'
theorem bh_1{sc:Scope}{n:Nat}{x:Str}(h:sc.names.lookup x=some .cell):∃c,(cellsFrom n sc.names []).lookup x=some c:=by
 have q:=cellsFrom_some sc.names n [] (.inl h);exact Option.isSome_iff_exists.mp q
theorem cc_6{CX:CXT}{P:Program}{w:World}{K:Frag}{mg:Str→Option Value}{base:Heap}{N ps:List Str}{qual:Str}{scope:Scope}{f:Addr}{cd:Value}{A:Around}{outer:List Env}{s s1:Shared}{H:Hp}{E:XK}{us:List Value}{vs:List V}
  (S:FnScope N ps scope) (hd:A.handled=none) (e0:Env0 P w K mg base A outer s H) (hl:vs.length=ps.length) (r:Vals vs us)
  (x:InCallC s s.heap.objs.size (bindL (envOfC qual scope s.heap.objs.size f cd).kindOf (ps.zip us) fun _=>none) (cellsFrom (s.heap.objs.size + 1) scope.names []) (bindC (envOfC qual scope s.heap.objs.size f cd).kindOf (ps.zip us) fun _=>none) s1):
  Inv (cxOf CX P w K mg base N qual scope f cd A outer s H E) [] (p_4 N vs) H s1:=by
 have hpl:ps.length≤N.length:=by have:=congrArg List.length S.pre;rw [List.length_take] at this;omega
 obtain⟨h1,tk,rfl,hk⟩:=x.done;have noA:∀b:Addr,b∉(cxOf CX P w K mg base N qual scope f cd A outer s H E).ex:=fun b z=>absurd (show b∈([]:List Addr) from z) (by simp);refine⟨⟨e0.mod,S.kind,rfl,rfl,Nat.le_refl _,fun y z c h1 h2=> ?_,fun y hy=> ?_,fun y c _ h=> ?_,fun _=>hd,Around.frames_deeper e0.frames, .inr ⟨rfl,rfl⟩,fun b z=>absurd z (noA b),e0.bs,e0.bsz,fun b _ _=>noA b,fun b z=>absurd z (noA b),e0.funs,e0.frf⟩,
  rfl,e0.bare,Un.kept hk,⟨_,x.toInCall.ns,fun i y v h1 h2 h3=> ?_⟩,fun y c h=>⟨_,x.cell y c h⟩,e0.hok.fresh (Nat.le_refl _),fun y c h=> ?_,fun p hp=>absurd (show p∈([]:List (Addr×Obj)) from hp) (by simp),e0.hok.kept hk, ?_⟩
 ·exact name_of_addr x.apart (PySem.mem_of_lookup h1) (PySem.mem_of_lookup h2)
 ·have hy:scope.names.lookup y=some .cell∨scope.names.lookup y=some .free:=hy;rcases hy with hy|hy
  ·exact bh_1 hy
  ·exact absurd rfl (S.nofree _ (PySem.mem_of_lookup hy))
 ·exact Nat.le_of_lt (x.above y c (PySem.mem_of_lookup h))
 ·have hi:i < vs.length:=by
   unfold p_4 at h2
   by_cases hi:i < vs.length
   ·exact hi
   ·rw [List.getElem?_append_right (by simpa using hi)] at h2;rw [List.getElem?_replicate] at h2
    split at h2 <;> cases h2
  have ha:vs[i]? =some v:=by
   unfold p_4 at h2;rw [List.getElem?_append_left (by simpa using hi),List.getElem?_map] at h2;cases e:vs[i]? with
   |none=>rw [e] at h2;cases h2
   |some a=>rw [e] at h2;cases h2;rfl
  obtain⟨u,hu,rv⟩:=r.get ha;have hp:ps[i]? =some y:=by
   rw [←S.pre,List.getElem?_take_of_lt (by omega)];exact h1
  have ndP:ps.Nodup:=by rw [←S.pre];exact S.nd.sublist (List.take_sublist _ _)
  refine⟨u,rv, ?_⟩;rcases S.par y (List.mem_of_getElem? hp) with k|k
  ·exact .inl ⟨k,aw_5 ndP hp hu k⟩
  ·obtain⟨c,e⟩:=bh_1 (n:=s.heap.objs.size + 1) k;refine .inr ⟨.inl k,c,e, ?_⟩;have q:=x.cell y c e;rw [aw_6 ndP hp hu (by show scope.names.lookup y≠_;rw [k];decide)] at q;exact q
 ·exact e0.hok.fresh (Nat.le_of_lt (x.above y c (PySem.mem_of_lookup h)))
 ·unfold p_4;show _=N.length;rw [List.length_append,List.length_map,List.length_replicate];omega
section
variable{X:Cx}{x:Str}{p pos:Pos}{e:Expr}{es:List Expr}{t:TA}{id T:String}{r:List V→Hp→VK→Prop}
def tCB(r:List V→Hp→VK→Prop)(t:TA):TE:=fun σ H Q=>t σ H fun vs H1=>r vs H1 Q
theorem x_8(hc:CallR X (.builtin id) r)(hg:Gl X x)(hm:X.mg x=none)(hv:bootBuiltins x=some (.builtin id))(ha:PA X (e::es) t)(hn:x≠ "__name__" :=by decide)(hdb:(x ==("__debug__" :Str))=false:=by decide)
  (he:starEach (e::es) X.env=(false,eval e X.env)::starEach es X.env:=by rfl) (hpl:(backTo pos (starEach es X.env)).any (·.1)=false:=by rfl):PE X (.Call (.Name x p) (e::es) [] pos) (tCB r t):=by
 intro zd s σ H Q I h;refine wpAny_Call_Name_kw (ad_6 I hg hm hv ?_ hn hdb);exact PyProof.Rows.callWith_builtin1 (thn (ha pos zd s σ H _ I h) fun us s1 ⟨vs,H1,I1,r1,q1⟩=>hc zd s1 σ H1 vs us Q I1 r1 q1) he hpl
theorem cc_7(hc:CallR X (.type T) r)(hg:Gl X x)(hm:X.mg x=none)(hv:bootBuiltins x=some (.type T))(ha:PA X (e::es) t)(hn:x≠ "__name__" :=by decide)(hdb:(x ==("__debug__" :Str))=false:=by decide)
  (he:starEach (e::es) X.env=(false,eval e X.env)::starEach es X.env:=by rfl) (hpl:(backTo pos (starEach es X.env)).any (·.1)=false:=by rfl):PE X (.Call (.Name x p) (e::es) [] pos) (tCB r t):=by
 intro zd s σ H Q I h;refine wpAny_Call_Name_kw (ad_6 I hg hm hv ?_ hn hdb);exact PyProof.Rows.callWith_type1 (thn (ha pos zd s σ H _ I h) fun us s1 ⟨vs,H1,I1,r1,q1⟩=>hc zd s1 σ H1 vs us Q I1 r1 q1) he hpl
end
end L2
namespace HT
open PySem PyProof.Rows
section
open PySem.SeqAt
open PySem.AutoSeq1 (wpAny_loadPart')
open PySem.MeetsSeq PySem.MeetsSeq2 PySem.MeetsSeq3
end
section
variable{prog:Program}{w:World}{A:Around}{E:Value→Shared→Prop}{s:Shared}
def sIx(n d:Nat):Option Int→Nat
 |none=>d
 |some v=>if v < 0 then(v + (n:Int)).toNat else min v.toNat n
theorem sIx_le(n d:Nat)(hd:d≤n)(o:Option Int):sIx n d o≤n:=by
 cases o with
 |none=>exact hd
 |some v=>
  show(if v < 0 then(v + (n:Int)).toNat else min v.toNat n)≤n
  by_cases hv:v < 0
  ·rw [if_pos hv];omega
  ·rw [if_neg hv];exact Nat.min_le_right _ _
end
end HT
namespace L2
open PySem PySem.Spec PyProof.Rows
abbrev TO:=St→Hp→(Option Int→Hp→Prop)→Prop
def PO(X:Cx)(e:Option Expr)(t:TO):Prop:=
 ∀(zd:List (Addr×Obj)) (s:Shared) (σ:St) (H:Hp) (Q:Option Int→Hp→Prop),Inv X zd σ H s→t σ H Q→
  wpAny (model X.prog X.w) X.A (evalPart e X.env) (fun u s'=>∃o H',Inv X zd σ H' s'∧IsPart u o∧Q o H') X.xe s
def ct_6:TO:=fun _ H Q=>Q none H
def dn_1(t:TE):TO:=fun σ H Q=>t σ H fun x H1=>∃i,x= .int i∧Q (some i) H1
section
variable{X:Cx}{e:Expr}{te:TE}{lo hi:Option Expr}{tl th:TO}{pos p2:Pos}
theorem ct_7:PO X none ct_6:=by
 intro zd s σ H Q I h;rw [evalPart_none];exact wpAny_pure ⟨none,H,I, .none,h⟩
theorem ct_8(h:PE X e te):PO X (some e) (dn_1 te):=by
 intro zd s σ H Q I hw;rw [evalPart_some];refine thn (h zd s σ H _ I hw) fun u s1 ⟨x,H1,I1,r1,q1⟩=> ?_;obtain⟨i,rfl,q⟩:=q1;obtain⟨t,rfl⟩:=r1;exact⟨some i,H1,I1, .int i t,q⟩
def SlR(X:Cx)(r:V→Option Int→Option Int→Hp→VK→Prop):Prop:=
 ∀(zd:List (Addr×Obj)) (s:Shared) (σ:St) (H:Hp) (x:V) (v vl vu:Value) (lo hi:Option Int) (sl:Addr) (Q:VK),Inv X zd σ H s→RelV x v→s.heap.IsSliceOf sl vl vu .none→IsPart vl lo→IsPart vu hi→r x lo hi H Q→
  ∃T id,typeLookup (.type T) "__getitem__" =pure (some (.builtin id))∧s.TypeIs v T∧wpAny (model X.prog X.w) X.A (getItem v (.ref sl)) (EP X zd σ Q) X.xe s
theorem SlR.or{r r':V→Option Int→Option Int→Hp→VK→Prop}(h:SlR X r)(h':SlR X r'):SlR X (fun x lo hi H Q=>r x lo hi H Q∨r' x lo hi H Q):=by
 intro zd s σ H x v vl vu lo hi sl Q I rx hs pl pu q;rcases q with q|q
 ·exact h zd s σ H x v vl vu lo hi sl Q I rx hs pl pu q
 ·exact h' zd s σ H x v vl vu lo hi sl Q I rx hs pl pu q
def tSl(r:V→Option Int→Option Int→Hp→VK→Prop)(te:TE)(tl th:TO):TE:=fun σ H Q=>te σ H fun x H1=>tl σ H1 fun l H2=>th σ H2 fun u H3=>r x l u H3 Q
theorem cj_5{r:V→Option Int→Option Int→Hp→VK→Prop}(hr:SlR X r)(he:PE X e te)(hl:PO X lo tl)(hu:PO X hi th):PE X (.Subscript e (.Slice lo hi none p2) pos) (tSl r te tl th):=by
 intro zd s σ H Q I h;refine Subscript_ (thn (he zd s σ H _ I h) fun v s1 ⟨x,H1,I1,r1,q1⟩=> ?_);refine wpAny_Slice (thn (hl zd s1 σ H1 _ I1 q1) fun vl s2 ⟨l,H2,I2,pl,q2⟩=>thn (hu zd s2 σ H2 _ I2 q2) fun vu s3 ⟨u,H3,I3,pu,q3⟩=> ?_);rw [evalPart_none];refine wpAny_pure ?_;have I4:Inv X zd σ H3 {s3 with heap:=s3.heap.push {cls:= .type "slice",data:= .fields #[vl,vu, .none]}}:=I3.kept (t':=s3.toks) fun b ob q=>Heap.get?_push_of_some _ q;obtain⟨T,id,hT,ht,hg⟩:=hr zd {s3 with heap:=s3.heap.push {cls:= .type "slice",data:= .fields #[vl,vu, .none]}} σ H3 x v vl vu l u s3.heap.objs.size Q I4 r1 (Heap.IsSliceOf.new ..) pl pu q3;show wpAny (model X.prog X.w) X.A (subscriptTail e (.Slice lo hi none p2) v (.ref s3.heap.objs.size)) (EP X zd σ Q) X.xe {s3 with heap:=s3.heap.push {cls:= .type "slice",data:= .fields #[vl,vu, .none]}};exact tail_any (ops:= [.ref s3.heap.objs.size,v]) ht hT hg (by with_unfolding_all rfl)
def cutV(xs:List V)(lo hi:Option Int):List V:=(xs.drop (HT.sIx xs.length 0 lo)).take (HT.sIx xs.length xs.length hi - HT.sIx xs.length 0 lo)
theorem bh_2(xs:List V)(lo hi:Option Int):(cutV xs lo hi).length≤xs.length:=by
 unfold cutV;rw [List.length_take,List.length_drop];omega
end
def ixN(n:Nat)(i:Int):Option Nat:=if 0≤i then(if i < n then some i.toNat else none) else if -(n:Int)≤i then some (i + n).toNat else none
def atI{α:Type}(xs:List α)(i:Int):Option α:=(ixN xs.length i).bind fun j=>xs[j]?
theorem ct_9{n:Nat}{i:Int}{j:Nat}(h:ixN n i=some j):seqIndex? i n=some j∧j < n∧ -(n:Int)≤i∧i < n:=by
 unfold ixN at h
 by_cases h0:0≤i
 ·rw [if_pos h0] at h
  by_cases h1:i < n
  ·rw [if_pos h1] at h;have e:i.toNat=j:=Option.some.inj h;exact⟨by rw [seqIndex_of h0 h1,e],by omega,by omega,h1⟩
  ·rw [if_neg h1] at h;cases h
 ·rw [if_neg h0] at h
  by_cases h1: -(n:Int)≤i
  ·rw [if_pos h1] at h;have e:(i + n).toNat=j:=Option.some.inj h;exact⟨by rw [seqIndex_neg (by omega) h1,e],by omega,h1,by omega⟩
  ·rw [if_neg h1] at h;cases h
theorem ba_8{α:Type}{xs:List α}{i:Int}{v:α}(h:atI xs i=some v):∃j,seqIndex? i xs.length=some j∧xs[j]? =some v∧j < xs.length∧ -(xs.length:Int)≤i∧i < xs.length:=by
 unfold atI at h;cases e:ixN xs.length i with
 |none=>rw [e] at h;cases h
 |some j=>
  rw [e] at h;obtain⟨h1,h2,h3,h4⟩:=ct_9 e;exact⟨j,h1,h,h2,h3,h4⟩
def bw_3(b:Expr):Prop:=∀o i,subscripted b false o i=operate [o,i] (getItem o i)
def IxR(X:Cx)(r:R2):Prop:=
 ∀(value slice:Expr) (zd:List (Addr×Obj)) (s:Shared) (σ:St) (H:Hp) (x y:V) (v u:Value) (Q:VK),Inv X zd σ H s→RelV x v→RelV y u→r x y H Q→
  subscripted slice false v u=operate [v,u] (getItem v u)→wpAny (model X.prog X.w) X.A (subscriptTail value slice v u) (EP X zd σ Q) X.xe s
def MtR(X:Cx)(id:String)(r:V→List V→Hp→VK→Prop):Prop:=
 ∀(zd:List (Addr×Obj)) (s:Shared) (σ:St) (H:Hp) (x:V) (xs:List V) (v:Value) (us:List Value) (Q:VK),Inv X zd σ H s→RelV x v→Vals xs us→r x xs H Q→
  wpAny (model X.prog X.w) X.A (call (.builtin id) (v::us)) (EP X zd σ Q) X.xe s
section
variable{X:Cx}{a b:Expr}{ta tb:TE}{pos:Pos}
theorem IxR.or{r r':R2}(h:IxR X r)(h':IxR X r'):IxR X (fun x y H Q=>r x y H Q∨r' x y H Q):=by
 intro value slice zd s σ H x y v u Q I rx ry q hs;rcases q with q|q
 ·exact h value slice zd s σ H x y v u Q I rx ry q hs
 ·exact h' value slice zd s σ H x y v u Q I rx ry q hs
theorem MtR.or{id:String}{r r':V→List V→Hp→VK→Prop}(h:MtR X id r)(h':MtR X id r'):MtR X id (fun x xs H Q=>r x xs H Q∨r' x xs H Q):=by
 intro zd s σ H x xs v us Q I rx rs q;rcases q with q|q
 ·exact h zd s σ H x xs v us Q I rx rs q
 ·exact h' zd s σ H x xs v us Q I rx rs q
theorem dn_2{r:R2}(hr:IxR X r)(ha:PE X a ta)(hb:PE X b tb)(hs:bw_3 b):PE X (.Subscript a b pos) (tOp r ta tb):=by
 intro zd s σ H Q I h;exact Subscript_ (binT ha hb I h fun v u s2 x y H2 I2 rx ry q=>hr a b zd s2 σ H2 x y v u Q I2 rx ry q (hs _ _))
def rIxL(K:Frag):R2:=fun x y H Q=>∃p xs i v,x= .ref p∧y= .int i∧SqL K H p xs∧atI xs i=some v∧Q v H
def rIxT(K:Frag):R2:=fun x y H Q=>∃p xs i v,x= .ref p∧y= .int i∧SqT K H p xs∧atI xs i=some v∧Q v H
def rIxS:R2:=fun x y H Q=>∃z i c,x= .str z∧y= .int i∧z.length≤sizeLine∧atI z.cps.toList i=some c∧Q (.str ⟨#[c]⟩) H
theorem ba_9:IxR X (rIxL X.K):=by
 intro value slice zd s σ H x y v u Q I rx ry h hs;obtain⟨p,xs,i,z,rfl,rfl,hq,he,q⟩:=h;cases rx;obtain⟨t,rfl⟩:=ry;obtain⟨its,r,pl,hz⟩:=I.list hq;obtain⟨j,h1,h2,h3,h4,h5⟩:=ba_8 he;obtain⟨w,ew,rw'⟩:=r.get h2;have hl:=r.length;have hn:=ah_7;have fin:EP X zd σ Q w s:=⟨z,H,I,rw',q⟩
 by_cases h0:0≤i
 ·have hj:i.toNat=j:=by
   rw [seqIndex_of h0 h5] at h1;exact Option.some.inj h1
  exact item_listR pl.isList h0 (by omega) (by rw [hj];simpa using ew) fin hs
 ·have hj:(i + (its.toArray.size:Int)).toNat=j:=by
   rw [seqIndex_neg (by omega) h4] at h1;rw [List.size_toArray,←hl];exact Option.some.inj h1
  exact subscriptTail_builtinR (x:=w) pl.isList.typeIs slot_list_getitem.lookup
   (wpAny_getItem_list_neg (Q:=fun r s'=>r=w∧EP X zd σ Q r s') pl.isList (by omega) (by rw [List.size_toArray] <;> omega) (by omega) (by rw [hj];simpa using ew) ⟨rfl,fin⟩) hs
theorem df_2:IxR X (rIxT X.K):=by
 intro value slice zd s σ H x y v u Q I rx ry h hs;obtain⟨p,xs,i,z,rfl,rfl,hq,he,q⟩:=h;cases rx;obtain⟨t,rfl⟩:=ry;obtain⟨its,r,pl,hz⟩:=I.tuple hq;obtain⟨j,h1,h2,h3,h4,h5⟩:=ba_8 he;obtain⟨w,ew,rw'⟩:=r.get h2;have hl:=r.length;have hn:=ah_7;have fin:EP X zd σ Q w s:=⟨z,H,I,rw',q⟩;exact subscriptTail_builtinR (x:=w) pl.typeIs slot_tuple_getitem.lookup
  (getItem_tuple (j:=j) (Q:=fun r s'=>r=w∧EP X zd σ Q r s') pl (by omega) (by omega) (by rw [List.size_toArray,←hl];exact h1) (by simpa using ew) ⟨rfl,fin⟩) hs
theorem df_3:IxR X rIxS:=by
 intro value slice zd s σ H x y v u Q I rx ry h hs;obtain⟨z,i,c,rfl,rfl,hz,he,q⟩:=h;obtain⟨t,rfl⟩:=rx;obtain⟨t',rfl⟩:=ry;obtain⟨j,h1,h2,h3,h4,h5⟩:=ba_8 he;have hl:z.cps.toList.length=z.length:=by simp [Str.length]
 rw [hl] at h1 h4 h5;have hn:=ah_7;exact tail_any (typeIs_str s z t) slot_str_getitem.lookup (getItem_str (c:=c) (by
  have e1:decide (i < -(2 ^ 63:Int))=false:=decide_eq_false (by omega);have e2:decide (i≥2 ^ 63)=false:=decide_eq_false (by omega);rw [e1,e2,Bool.or_false]) (by rw [h1];simpa using h2) ⟨.str ⟨#[c]⟩,H,I.tok _,⟨_,rfl⟩,q⟩) hs
theorem Inv.lst{zd:List (Addr×Obj)}{σ:St}{H:Hp}{s:Shared}{p:Addr}{xs:List V}(I:Inv X zd σ H s)(h:H p=some (.lst xs)):
  ∃(its:List Value) (n:Nat),Vals xs its∧s.heap.get? p=some {cls:= .type "list",data:= .seq its.toArray n}∧xs.length≤sizeLine:=by
 obtain⟨z,its,n,r,e⟩:=I.hok p _ h;exact⟨its,n,r,e,z⟩
theorem bb_0(lo hi:Option Int)(n:Nat):(sliceBounds lo hi none n).1=((HT.sIx n 0 lo:Nat):Int)∧(sliceBounds lo hi none n).2.1=((HT.sIx n n hi:Nat):Int)∧(sliceBounds lo hi none n).2.2=1:=by
 refine⟨?_, ?_,rfl⟩
 ·cases lo with
  |none=>simp [sliceBounds,HT.sIx]
  |some i=>
   simp only [sliceBounds,HT.sIx,Option.getD_none,show(1:Int) > 0 by decide,if_true]
   by_cases h:i < 0
   ·simp only [h,if_true] <;> omega
   ·simp only [h,if_false] <;> omega
 ·cases hi with
  |none=>simp [sliceBounds,HT.sIx]
  |some i=>
   simp only [sliceBounds,HT.sIx,Option.getD_none,show(1:Int) > 0 by decide,if_true]
   by_cases h:i < 0
   ·simp only [h,if_true] <;> omega
   ·simp only [h,if_false] <;> omega
theorem au_6(its:List Value)(lo hi:Option Int):slicePick its.toArray lo hi none=((its.drop (HT.sIx its.length 0 lo)).take (HT.sIx its.length its.length hi - HT.sIx its.length 0 lo)).toArray:=by
 obtain⟨h1,h2,h3⟩:=bb_0 lo hi its.toArray.size;unfold slicePick;rw [h1,h2,h3];simp only [sliceRange_one,pick_run,List.size_toArray] <;> rfl
def rSlL(K:Frag):V→Option Int→Option Int→Hp→VK→Prop:=fun x lo hi H Q=>∃a xs,x= .ref a∧SqL K H a xs∧∀p,H p=none→Q (.ref p) (upd H p (.lst (cutV xs lo hi)))
theorem cu_0:SlR X (rSlL X.K):=by
 intro zd s σ H x v vl vu lo hi sl Q I rx hs pl pu h;obtain⟨a,xs,rfl,hx,q⟩:=h;cases rx;obtain⟨its,r,ht,hz⟩:=I.list hx;have zk:=r.length;refine⟨"list",_,slot_list_getitem.lookup,ht.isList.typeIs, ?_⟩;refine wpAny_getItem_list_slice ht.isList hs pl pu .none (by simp) ?_ (by rw [List.size_toArray] <;> omega);rw [au_6,←zk];refine⟨.ref s.heap.objs.size,_,I.laid (t':=s.toks) (o:= .lst (cutV xs lo hi)) (fun b ob q=>Heap.get?_push_of_some _ q) (Nat.le_refl _) ?_,rfl,q _ (I.hok.fresh (Nat.le_refl _))⟩;exact⟨Nat.le_trans (bh_2 xs lo hi) hz,_,0,(r.drop (HT.sIx xs.length 0 lo)).take (HT.sIx xs.length xs.length hi - HT.sIx xs.length 0 lo),Heap.get?_push_size _ rfl⟩
def ac_1:V→Bool
 | .non=>true
 | .bl _=>true
 | .int _=>true
 | .str _=>true
 |_=>false
def eqV:V→V→Bool
 | .non, .non=>true
 | .bl a, .bl b=>a ==b
 | .bl a, .int b=>(if a then 1 else 0) ==b
 | .int a, .bl b=>a ==(if b then 1 else 0)
 | .int a, .int b=>a ==b
 | .str a, .str b=>a ==b
 |_,_=>false
theorem df_4{A:Around}{s:Shared}{y x:V}{u v:Value}(ry:RelV y u)(rx:RelV x v)(fy:ac_1 y=true)(fx:ac_1 x=true):SeqAt.EqAt A s u v (eqV y x):=by
 cases y with
 |non=>
  cases ry;cases x with
  |non=>cases rx;exact SeqAt.EqAt.same _
  |bl b=>cases rx;exact SeqAt.EqAt.none_bool b
  |int b=>obtain⟨t,rfl⟩:=rx;exact SeqAt.EqAt.none_int b t
  |str b=>obtain⟨t,rfl⟩:=rx;exact SeqAt.EqAt.none_str b t
  |_=>exact absurd (show false=true from fx) Bool.false_ne_true
 |bl a=>
  cases ry;cases x with
  |non=>cases rx;exact SeqAt.EqAt.bool_none a
  |bl b=>cases rx;exact SeqAt.EqAt.bool_bool a b
  |int b=>obtain⟨t,rfl⟩:=rx;exact SeqAt.EqAt.bool_int a b t
  |str b=>obtain⟨t,rfl⟩:=rx;exact SeqAt.EqAt.bool_str a b t
  |_=>exact absurd (show false=true from fx) Bool.false_ne_true
 |int a=>
  obtain⟨t',rfl⟩:=ry;cases x with
  |non=>cases rx;exact SeqAt.EqAt.int_none a t'
  |bl b=>cases rx;exact SeqAt.EqAt.int_bool a t' b
  |int b=>obtain⟨t,rfl⟩:=rx;exact SeqAt.EqAt.int_int a t' b t
  |str b=>obtain⟨t,rfl⟩:=rx;exact SeqAt.EqAt.int_str a t' b t
  |_=>exact absurd (show false=true from fx) Bool.false_ne_true
 |str a=>
  obtain⟨t',rfl⟩:=ry;cases x with
  |non=>cases rx;exact SeqAt.EqAt.str_none a t'
  |bl b=>cases rx;exact SeqAt.EqAt.str_bool a t' b
  |int b=>obtain⟨t,rfl⟩:=rx;exact SeqAt.EqAt.str_int a t' b t
  |str b=>obtain⟨t,rfl⟩:=rx;exact SeqAt.EqAt.str_str a t' b t
  |_=>exact absurd (show false=true from fx) Bool.false_ne_true
 |_=>exact absurd (show false=true from fy) Bool.false_ne_true
def eqU(x:V)(u:Value):Bool:=match u with
 | .none=>eqV .non x
 | .bool b=>eqV (.bl b) x
 | .int i _=>eqV (.int i) x
 | .str z _=>eqV (.str z) x
 |_=>false
theorem cj_6{x y:V}{u:Value}(r:RelV y u)(f:ac_1 y=true):eqU x u=eqV y x:=by
 cases y with
 |non=>cases r;rfl
 |bl b=>cases r;rfl
 |int i=>obtain⟨t,rfl⟩:=r;rfl
 |str z=>obtain⟨t,rfl⟩:=r;rfl
 |_=>exact absurd (show false=true from f) Bool.false_ne_true
theorem bb_1{x:V}:∀{xs:List V} {us:List Value},Vals xs us→xs.all ac_1=true→us.any (eqU x)=xs.any fun y=>eqV y x
 |_,_, .nil,_=>rfl
 |y::xs,u::us, .cons r t,f=>by
  rw [List.all_cons,Bool.and_eq_true] at f;rw [List.any_cons,List.any_cons,cj_6 r f.1,bb_1 t f.2]
theorem ap_0{A:Around}{s:Shared}{x:V}{v:Value}(rx:RelV x v)(fx:ac_1 x=true):∀{xs:List V} {us:List Value},Vals xs us→xs.all ac_1=true→∀u∈us,SeqAt.EqAt A s u v (eqU x u)
 |_,_, .nil,_=>fun u hu=>by cases hu
 |y::xs,u::us, .cons r t,f=>fun u' hu=>by
  rw [List.all_cons,Bool.and_eq_true] at f;rcases List.mem_cons.mp hu with rfl|hu
  ·rw [cj_6 r f.1];exact df_4 r rx f.1 fx
  ·exact ap_0 rx fx t f.2 u' hu
def inV(x:V)(xs:List V):Bool:=xs.any fun y=>eqV y x
def rIn(K:Frag)(neg:Bool):R2:=fun x y H Q=>∃p xs,y= .ref p∧(SqL K H p xs∨SqT K H p xs)∧ac_1 x=true∧xs.all ac_1=true∧Q (.bl (if neg then !inV x xs else inV x xs)) H
theorem cc_9:OpR X (compareOp .In) (rIn X.K false):=by
 intro zd s σ H x y v u Q I rx ry h;obtain⟨p,xs,rfl,hq,fx,fs,q⟩:=h;cases ry;rcases hq with hq|hq
 ·obtain⟨its,r,pl,hz⟩:=I.list hq;refine SeqAt.in_listAt (eqU x) pl.isList (fun w hw=>ap_0 rx fx r fs w (by simpa using hw)) ⟨.bl _,H,I,rfl, ?_⟩;rw [show its.toArray.any (eqU x)=its.any (eqU x) by simp,bb_1 r fs];exact q
 ·obtain⟨its,r,pl,hz⟩:=I.tuple hq;refine SeqAt.in_tupleAt (eqU x) pl (fun w hw=>ap_0 rx fx r fs w (by simpa using hw)) ⟨.bl _,H,I,rfl, ?_⟩;rw [show its.toArray.any (eqU x)=its.any (eqU x) by simp,bb_1 r fs];exact q
theorem af_1:CallR X (.builtin "len") (fun xs H Q=>∃p ys,xs= [.ref p]∧(SqL X.K H p ys∨SqT X.K H p ys)∧Q (.int ys.length) H):=by
 intro zd s σ H xs us Q I r h;obtain⟨p,ys,rfl,hq,q⟩:=h;obtain⟨u,rfl,rx⟩:=bw_1 r;cases rx;have hn:=ah_7;rcases hq with hq|hq
 ·obtain⟨its,r',pl,hz⟩:=I.list hq;have zk:=r'.length;exact Calls.call_len_list pl.isList (by simp only [List.size_toArray] <;> omega) ⟨.int ys.length,H,I.tok _,⟨s.toks + 1,by rw [List.size_toArray,zk]⟩,q⟩
 ·obtain⟨its,r',pl,hz⟩:=I.tuple hq;have zk:=r'.length;exact len_tuple pl (by simp only [List.size_toArray] <;> omega) ⟨.int ys.length,H,I.tok _,⟨s.toks + 1,by rw [List.size_toArray,zk]⟩,q⟩
theorem bb_2:CallR X (.builtin "len") (fun xs H Q=>∃z,xs= [.str z]∧z.length≤sizeLine∧Q (.int z.length) H):=by
 intro zd s σ H xs us Q I r h;obtain⟨z,rfl,hz,q⟩:=h;obtain⟨u,rfl,t,rfl⟩:=bw_1 r;have hn:=ah_7;exact len_str (by omega) ⟨.int z.length,H,I.tok _,⟨_,rfl⟩,q⟩
theorem CallR.or{f:Value}{r r':List V→Hp→VK→Prop}(h:CallR X f r)(h':CallR X f r'):CallR X f (fun xs H Q=>r xs H Q∨r' xs H Q):=by
 intro zd s σ H xs us Q I rs q;rcases q with q|q
 ·exact h zd s σ H xs us Q I rs q
 ·exact h' zd s σ H xs us Q I rs q
theorem af_2:CallR X (.type "list") (fun xs H Q=>∃p ys,xs= [.ref p]∧(SqL X.K H p ys∨SqT X.K H p ys)∧∀l,H l=none→Q (.ref l) (upd H l (.lst ys))):=by
 intro zd s σ H xs us Q I r h;obtain⟨p,ys,rfl,hq,q⟩:=h;obtain⟨u,rfl,rx⟩:=bw_1 r;cases rx;have fin:∀(its:List Value),Vals ys its→ys.length≤sizeLine→∀(h':Heap) (c':Nat),(∀b o',s.heap.get? b=some o'→h'.get? b=some o')→
   h'.get? s.heap.objs.size=some {cls:= .type "list",dict:=none,data:= .seq its.toArray c',slots:= #[]}→EP X zd σ Q (.ref s.heap.objs.size) {s with heap:=h'}:=fun its r' hz h' c' kp e=>
  ⟨.ref s.heap.objs.size,_,I.laid (t':=s.toks) kp (Nat.le_refl _) (show ObjOk X.prog X.w _ h' _ (.lst ys) from⟨hz,its,c',r',e⟩),rfl,q _ (I.hok.fresh (Nat.le_refl _))⟩
 rcases hq with hq|hq
 ·obtain⟨its,r',pl,hz⟩:=I.list hq;have zk:=r'.length;obtain⟨o,ho,hc,n,hd⟩:=pl.isList;exact call_list_seq p (.inl rfl) ho hc hd (fun h' c' kp e=>fin its r' hz h' c' kp e) (by simp only [List.size_toArray] <;> omega)
 ·obtain⟨its,r',pl,hz⟩:=I.tuple hq;have zk:=r'.length;obtain⟨o,ho,hc,n,hd⟩:=pl;exact call_list_seq p (.inr rfl) ho hc hd (fun h' c' kp e=>fin its r' hz h' c' kp e) (by simp only [List.size_toArray] <;> omega)
theorem ac_2:CallR X (.type "tuple") (fun xs H Q=>∃p ys,xs= [.ref p]∧((SqL X.K H p ys∧∀l,H l=none→Q (.ref l) (upd H l (.tup ys)))∨(SqT X.K H p ys∧Q (.ref p) H))):=by
 intro zd s σ H xs us Q I r h;obtain⟨p,ys,rfl,h⟩:=h;obtain⟨u,rfl,rx⟩:=bw_1 r;cases rx;rcases h with⟨hq,q⟩|⟨hq,q⟩
 ·obtain⟨its,r',pl,hz⟩:=I.list hq;have zk:=r'.length;refine call_tuple_list pl.isList (fun h' kp=> ?_) (by simp only [List.size_toArray] <;> omega);have I1:Inv X zd σ H {s with heap:=h'}:=I.kept (t':=s.toks) kp;have I2:Inv X zd σ (upd H h'.objs.size (.tup ys)) {s with heap:=h'.push {cls:= .type "tuple",data:= .seq its.toArray}}:=
   I1.laid (t':=s.toks) (fun b o e=>Heap.get?_push_of_some _ e) (Nat.le_refl _) (show ObjOk X.prog X.w _ _ _ (.tup ys) from⟨hz,its,r',IsTup.new _ _⟩)
  exact⟨.ref h'.objs.size,_,I2,rfl,q _ (I1.hok.fresh (Nat.le_refl _))⟩
 ·obtain⟨its,r',pl,hz⟩:=I.tuple hq;exact call_tuple_same pl ⟨.ref p,H,I,rfl,q⟩
def tyV(K:Frag)(T:String)(x:V)(H:Hp):Prop:=match x with
 | .str _=>T= "str"
 | .int _=>T= "int"
 | .ref p=>(T= "list" ∧∃xs,SqL K H p xs)∨(T= "tuple" ∧∃o,K.lookup p=some o∧o.cls= .type "tuple" ∧o.dict=none)∨
   (T= "dict" ∧((∃kvs,H p=some (.dK kvs))∨∃kvs,H p=some (.dT kvs)))∨(T= "set" ∧∃S n,H p=some (.set S n))
 |_=>False
theorem df_5{zd:List (Addr×Obj)}{σ:St}{H:Hp}{s:Shared}{T:String}{x:V}{v:Value}(I:Inv X zd σ H s)(r:RelV x v)(ty:tyV X.K T x H):
  s.TypeIs v T∧∀a,v= .ref a→∃ob,s.heap.get? a=some ob∧ob.dict=none:=by
 cases x with
 |str z=>
  obtain⟨t,rfl⟩:=r;cases(show T= "str" from ty);exact⟨typeIs_str s z t,fun _ e=>nomatch e⟩
 |int i=>
  obtain⟨t,rfl⟩:=r;cases(show T= "int" from ty);exact⟨typeIs_int s i t,fun _ e=>nomatch e⟩
 |ref p=>
  cases r;rcases ty with⟨rfl,xs,hq⟩|⟨rfl,o,hk,hc,hd⟩|⟨rfl,hk⟩|⟨rfl,S,n,hk⟩
  ·obtain⟨its,_,pl,_⟩:=I.list hq;refine⟨pl.isList.typeIs,fun a e=> ?_⟩;cases e;obtain⟨o,n,e,c,hd,_⟩:=pl;exact⟨o,e,hd⟩
  ·refine⟨⟨o,I.kIn p o hk,hc⟩,fun a e=> ?_⟩;cases e;exact⟨o,I.kIn _ o hk,hd⟩
  ·have z:∃o,s.heap.get? p=some o∧o.ExactDict:=by
    rcases hk with⟨kvs,hk⟩|⟨kvs,hk⟩
    ·obtain⟨_,_,_,_,o,_,_,e,ex,_⟩:=I.hok p _ hk;exact⟨o,e,ex⟩
    ·obtain⟨_,_,_,_,o,_,_,e,ex,_⟩:=I.hok p _ hk;exact⟨o,e,ex⟩
   obtain⟨o,e,ex⟩:=z;refine⟨⟨o,e,ex.1⟩,fun a e2=> ?_⟩;cases e2;exact⟨o,e,ex.2.1⟩
  ·obtain⟨o,_,_,_,e,ex,_⟩:=I.hok p _ hk;refine⟨⟨o,e,ex.1⟩,fun a e2=> ?_⟩;cases e2;exact⟨o,e,ex.2.1⟩
 |_=>exact False.elim ty
def tBM(K:Frag)(T:String)(r:V→List V→Hp→VK→Prop)(to:TE)(t:TA):TE:=fun σ H Q=>to σ H fun x H1=>tyV K T x H1∧t σ H1 fun xs H2=>r x xs H2 Q
variable{o e:Expr}{es:List Expr}{to:TE}{t:TA}{name:Str}{zg zf:Pos}{T id:String}{r:V→List V→Hp→VK→Prop}
theorem bw_4(pa:PlainAttrs T)(slot:Slot T name id)(hty:typeOf (.builtin id)=pure (.type "method_descriptor"))(hm:MtR X id r)(ho:PE X o to)(ha:PA X (e::es) t)
  (ae:attributeBase o name X.env (eval o X.env)=eval o X.env:=by rfl)
  (aw:((backTo zf (starEach (e::es) X.env)).all (fun x=> !x.1) && (backToKw zf (keywordEach [] X.env)).all (fun x=>x.1.isSome)
   && decide ((e::es).length + ([]:List Keyword).length + (if([]:List Keyword).isEmpty then 0 else 1) < 30))=true:=by rfl)
  (af:(zg.endLine ==zf.line)=true:=by rfl) (hs:starEach (e::es) X.env=(false,eval e X.env)::starEach es X.env:=by rfl) (aa:(backTo zf (starEach es X.env)).any (·.1)=false:=by rfl):
  PE X (.Call (.Attribute o name zg) (e::es) [] zf) (tBM X.K T r to t):=by
 intro zd s σ H Q I h;refine wpAny_Call_method_late ae aw af rfl (thn (ho zd s σ H _ I h) fun v s1 ⟨x,H1,I1,r1,ty,q1⟩=> ?_);obtain⟨h1,h2⟩:=df_5 I1 r1 ty;refine⟨T,id,pa,slot,hty,h1,h2, ?_⟩;have hA:=ha zf zd s1 σ H1 _ I1 q1;rw [hs] at hA⊢;refine Calls.callWith_builtin (by show(false || (backTo zf (starEach es X.env)).any (·.1))=false;rw [aa] <;> rfl) (Calls.evalArgs_plain ?_);exact thn hA fun us s2 ⟨vs,H2,I2,r2,q2⟩=>hm zd s2 σ H2 x vs v us Q I2 r1 r2 q2
end
def MtM(X:Cx)(id:String)(r:V→List V→Hp→VK→Prop):Prop:=
 ∀(zd:List (Addr×Obj)) (s:Shared) (σ:St) (H:Hp) (x:V) (xs:List V) (v:Value) (us:List Value) (Q:VK),Inv X zd σ H s→RelV x v→Vals xs us→r x xs H Q→
  wpAny (model X.prog X.w) X.A (call (.builtin id) (v::us)) (EP X zd σ Q) X.xe s
theorem Vals.one:∀{x:V} {us:List Value},Vals [x] us→∃u,us= [u]∧RelV x u
 |_,_, .cons r .nil=>⟨_,rfl,r⟩
theorem Vals.two{x y:V}{us:List Value}(h:Vals [x,y] us):∃u v,us= [u,v]∧RelV x u∧RelV y v:=by
 cases h with
 |cons r t=>
  cases t with
  |cons q t=>
   cases t;exact⟨_,_,rfl,r,q⟩
theorem Vals.zero:∀{us:List Value},Vals [] us→us= []
 |_, .nil=>rfl
theorem Vals.dropLast{xs:List V}{us:List Value}(h:Vals xs us):Vals xs.dropLast us.dropLast:=by
 induction h with
 |nil=>exact .nil
 |cons r t ih=>
  cases t with
  |nil=>exact .nil
  |cons q t'=>exact .cons r ih
theorem Vals.eraseIdx:∀{xs:List V} {us:List Value} (i:Nat),Vals xs us→Vals (xs.eraseIdx i) (us.eraseIdx i)
 |_,_,_, .nil=> .nil
 |_,_,0, .cons _ t=>t
 |_,_,i + 1, .cons r t=> .cons r (Vals.eraseIdx i t)
theorem Vals.rep{xs:List V}{us:List Value}(h:Vals xs us):∀k:Nat,Vals (List.replicate k xs).flatten (List.replicate k us).flatten
 |0=> .nil
 |k + 1=>by
  rw [List.replicate_succ,List.replicate_succ,List.flatten_cons,List.flatten_cons];exact Vals.append h (Vals.rep h k)
theorem aw_7{α:Type}:∀(l:List α) (i:Nat),(l.eraseIdx i).length≤l.length
 | [],_=>Nat.le_refl _
 |_::_,0=>Nat.le_succ _
 |_::r,i + 1=>Nat.succ_le_succ (aw_7 r i)
theorem aw_8(its:List Value):∀(k:Nat) (zn:List Value),
  List.foldl (fun x1 x2=>x1 ++ x2) zn.toArray (List.replicate k its.toArray)=(zn ++ (List.replicate k its).flatten).toArray
 |0,zn=>by simp
 |k + 1,zn=>by
  have e:zn.toArray ++ its.toArray=(zn ++ its).toArray:=by simp
  have e2:(zn ++ its) ++ (List.replicate k its).flatten=zn ++ (List.replicate (k + 1) its).flatten:=by
   rw [List.replicate_succ,List.flatten_cons,List.append_assoc]
  rw [←e2,←aw_8 its k (zn ++ its),←e,List.replicate_succ,List.foldl_cons]
section
variable{X:Cx}{zd:List (Addr×Obj)}{σ:St}{H:Hp}{s:Shared}{l b:Addr}{xs ys zs:List V}
theorem Inv.lset{its its':List Value}{n:Nat}{f:Array Value→Array Value}{t':Nat}(I:Inv X zd σ H s)(hH:H l=some (.lst xs))
  (e:s.heap.get? l=some {cls:= .type "list",data:= .seq its.toArray n}) (hf:f its.toArray=its'.toArray) (hv:Vals ys its') (hz:ys.length≤sizeLine):
  Inv X zd σ (upd H l (.lst ys)) {s with heap:=s.heap.update l (Obj.mapSeq f),toks:=t'}:=by
 have q:=PySem.IsL.update e f;rw [hf] at q;refine I.write (x:=l) (e:=l) (by rw [hH];exact trivial) (.inl rfl) (fun b' u hb hu=>(Heap.get?_update_other s.heap (Obj.mapSeq f) (Ne.symm hb)).trans hu) ⟨_,q⟩ ?_;exact⟨hz,its',_,hv,q⟩
theorem Inv.lnew{its:List Value}{t':Nat}(I:Inv X zd σ H s)(hv:Vals ys its)(hz:ys.length≤sizeLine):
  Inv X zd σ (upd H s.heap.objs.size (.lst ys)) {s with heap:=s.heap.push {cls:= .type "list",data:= .seq its.toArray},toks:=t'}:=
 I.laid (fun _ _ q=>Heap.get?_push_of_some _ q) (Nat.le_refl _) ⟨hz,its,0,hv,Heap.get?_push_size _ rfl⟩
theorem Inv.fresh(I:Inv X zd σ H s):H s.heap.objs.size=none:=I.hok.fresh (Nat.le_refl _)
theorem Inv.lstM(I:Inv X zd σ H s)(hH:H l=some (.lst xs)):xs.length≤sizeLine∧∃(its:List Value) (n:Nat),Vals xs its∧xs.length=its.length∧s.heap.get? l=some {cls:= .type "list",data:= .seq its.toArray n}:=by
 obtain⟨z,its,n,r,e⟩:=I.hok l _ hH;exact⟨z,its,n,r,r.length,e⟩
theorem cj_7{n:Nat}(h:n≤sizeLine):Builtin.List.listTooLong n=false:=by
 unfold Builtin.List.listTooLong;exact decide_eq_false (by omega)
end
section
variable{X:Cx}
def bb_3:V→List V→Hp→VK→Prop:=fun x vs H Q=>∃l xs y,x= .ref l∧vs= [y]∧H l=some (.lst xs)∧xs.length < sizeLine∧Q .non (upd H l (.lst (xs ++ [y])))
theorem ah_9:MtM X "list.append" bb_3:=by
 intro zd s σ H x vs v us Q I rx rv h;obtain⟨l,xs,y,rfl,rfl,hH,hz,q⟩:=h;cases rx;obtain⟨u,rfl,ru⟩:=rv.one;obtain⟨z,its,n,r,hl,e⟩:=I.lstM hH;refine call_meets F.slot_list_append ⟨_,e,rfl⟩ F.entry_list_append (F.args_list_append_2 _ _) (PySem.list_append l its.toArray n u (by rw [List.size_toArray];omega)) ⟨e, ?_⟩;refine⟨.non,_,I.lset (its':=its ++ [u]) hH e (by simp) (r.append (.cons ru .nil)) ?_,rfl,q⟩;rw [List.length_append,List.length_singleton];omega
def df_6:V→List V→Hp→VK→Prop:=fun x vs H Q=>∃l xs i k y,x= .ref l∧vs= [.int i]∧H l=some (.lst xs)∧ -(2 ^ 63)≤i∧i < 2 ^ 63∧seqIndex? i xs.length=some k∧xs[k]? =some y∧Q y (upd H l (.lst (xs.eraseIdx k)))
theorem cj_8:MtM X "list.pop" df_6:=by
 intro zd s σ H x vs v us Q I rx rv h;obtain⟨l,xs,i,k,y,rfl,rfl,hH,h1,h2,hk,hy,q⟩:=h;cases rx;obtain⟨u,rfl,ru⟩:=rv.one;obtain⟨t,rfl⟩:=ru;obtain⟨z,its,n,r,hl,e⟩:=I.lstM hH;obtain⟨w,hw,rw'⟩:=r.get hy;refine call_meets F.slot_list_pop ⟨_,e,rfl⟩ F.entry_list_pop (F.args_list_pop_2 _ _)
  (MeetsSeq.list_pop_at l its.toArray n i t k w (fitsIndex_both h1 h2) (by rw [List.size_toArray,←hl];exact hk) (by rw [←Array.getElem?_toList];exact hw) (by rw [List.size_toArray];omega)) ⟨e, ?_⟩
 refine⟨y,_,I.lset (its':=its.eraseIdx k) hH e ?_ (r.eraseIdx k) ?_,rw',q⟩
 ·show its.toArray.eraseIdxIfInBounds k=(its.eraseIdx k).toArray;rw [List.eraseIdxIfInBounds_toArray]
 ·have:=aw_7 xs k;omega
def rRep:R2:=fun x y H Q=>∃l k xs,x= .ref l∧y= .int k∧H l=some (.lst xs)∧ -(2 ^ 63)≤k∧k < 2 ^ 63∧xs.length * k.toNat≤sizeLine∧
 ∀p,H p=none→Q (.ref p) (upd H p (.lst (List.replicate k.toNat xs).flatten))
theorem cu_1{α:Type}(xs:List α)(k:Nat):(List.replicate k xs).flatten.length=k * xs.length:=by
 induction k with
 |zero=>simp
 |succ k ih=>rw [List.replicate_succ,List.flatten_cons,List.length_append,ih,Nat.succ_mul,Nat.add_comm]
theorem df_7:OpR X (binaryOp .Mult) rRep:=by
 intro zd s σ H x y v u Q I rx ry h;obtain⟨l,k,xs,rfl,rfl,hH,h1,h2,hz,q⟩:=h;cases rx;obtain⟨t,rfl⟩:=ry;obtain⟨z,its,n,r,hl,e⟩:=I.lstM hH;have zk:its.toArray.size * k.toNat≤sizeLine:=by rw [List.size_toArray,←hl];exact hz
 have cz:¬its.toArray.size * k.toNat > (2 ^ 63 - 1) / 8:=by
  have:(sizeLine:Nat)≤(2 ^ 63 - 1) / 8:=by decide
  omega
 have du:¬(!Builtin.List.listFitsIndex k)=true:=by
  rw [fitsIndex_both h1 h2];exact Bool.false_ne_true
 have bt:¬Builtin.List.listTooLong (its.toArray.size * k.toNat)=true:=by
  rw [cj_7 zk];exact Bool.false_ne_true
 have fm:List.foldl (fun x1 x2=>x1 ++ x2) #[] (List.replicate (if its.toArray.isEmpty=true then 0 else k.toNat) its.toArray)=(List.replicate k.toNat its).flatten.toArray:=by
  have f0:∀m:Nat,List.foldl (fun x1 x2=>x1 ++ x2) #[] (List.replicate m its.toArray)=(List.replicate m its).flatten.toArray:=fun m=>by
   have:=aw_8 its m [];rw [List.nil_append] at this;exact this
  rw [f0];cases its with
  |nil=>simp
  |cons a r'=>rw [if_neg (by simp)]
 refine wpAny_binaryOp_repeat_ref (T:= "list") (U:= "int") (by decide) ⟨_,e,rfl⟩ (fun s'=>typeIs_int s' k t) noFill_list_mul F.fills_int_mul F.slot_int_rmul repeat_list F.slot_int_index.lookup
  (call_meets F.slot_int_rmul (typeIs_int s k t) F.entry_int_rmul (F.args_int_rmul_2 _ _) (int___rmul___int_list k t l its.toArray n)
   ⟨e,rfl,⟨_,e,rfl⟩,call_meets F.slot_list_mul ⟨_,e,rfl⟩ F.entry_list_mul (F.args_list_mul_2 _ _) (AutoListH.list___mul___list_int_3 l its.toArray n k t du cz bt) ⟨e, ?_⟩⟩)
 rw [fm];exact⟨.ref _,_,I.lnew (t':=s.toks) (r.rep k.toNat) (by rw [cu_1,Nat.mul_comm];exact hz),rfl,q _ I.fresh⟩
end
section
variable{prog:Program}{w:World}{A:Around}{E:Value→Shared→Prop}{s:Shared}
end
section
variable{X:Cx}
end
end L2
namespace Att
open PySem PySem.W PySem.Calls PyProof.Rows
theorem am_0{P:Params}{h:Heap}:∀(ns:List Int) (vs:List Value),WellAll P h vs (ns.map WData.int)→IntsAre vs ns:=by
 intro ns
 induction ns with
 |nil=>
  intro vs w;rw [List.map_nil] at w;cases w;exact .nil
 |cons n ns ih=>
  intro vs w;rw [List.map_cons] at w;cases w with
  |cons a b=>
   cases a;exact .cons _ _ (ih _ b)
theorem cd_0{l:OpenLaw}{n:Nat}(hn:l.most=some n){P:Params}{h:Heap}{args:List WData}{vals:List Value}
  (bg:l.row.toRowW.claim.pre args=true) (hwl:WellAll P h vals args):
  ∃a vs ns,vals= [Value.ref a]∧args= [WData.list (ns.map WData.int)]∧h.get? a=some {cls:= .type "list",data:= .seq vs.toArray}∧IntsAre vs ns∧ns.length≤n:=by
 have hsh:WShape.hasAll [] args [.list .int]=true:=(pre_splitW bg).1;have hc:l.pre.holds [] {args:=args}=true:=(pre_splitW bg).2;obtain⟨d,r,rfl,h1,h2⟩:=hasAllW_cons hsh;obtain rfl:=hasAllW_nil h2;obtain⟨xs,rfl,h3⟩:=hasW_list h1;obtain⟨ns,rfl⟩:=items_int h3;have zk:ns.length≤n:=by
  unfold OpenLaw.pre at hc;have h4:(WTm.not (.lt (.lit (.int (n:Int))) (.len (.arg 0)))).holds [] {args:= [.list (ns.map .int)]}=true:=by
   have h4:=(holds_andW hc).1;rw [hn] at h4;exact h4
  have h5:=condW_of h4 (w_not (w_lt w_lit (w_len_list (w_arg rfl))));rw [List.length_map] at h5;refine Nat.le_of_not_lt fun q=> ?_;have q':(n:Int) < ((ns.length:Nat):Int):=by omega
  first
   |(rw [decide_eq_true q'] at h5;exact absurd h5 (by decide))
   |(simp at h5;omega)
 cases hwl with
 |cons w1 w2=>
  cases w2;cases w1 with
  |list ho ba=>exact⟨_,_,ns,rfl,rfl,ho,am_0 ns _ ba,zk⟩
theorem cd_1(l:OpenLaw)(args:List WData):l.row.toRowW.claim.post args (.bool true) args=true:=
 postW_of (r:=l.row.toRowW) (X:=(true ==true))
  (show WShape.has [] (.bool true) .bool=true by first|rfl|decide|simp [WShape.has,WShape.arms,WShape.armsAll])
  (show(WTm.eq .res (.lit (.bool true))).value [] {args:=args,res:=some (.bool true),after:=args}=some (.bool (true ==true)) from w_eq_bool (w_res rfl) w_lit) rfl
theorem attach_call{l:OpenLaw}{n:Nat}{q:Program}{loose:List Str}{XP:(Str→Option Value)→Heap→Prop}{YP:World→Heap→Prop}{d:DefRec}
  (hn:l.most=some n) (hdf:d.params.defaults= [])
  (call:∀(w:World) (s₀ s₁:Shared) (mg mb:Str→Option Value) (fa:Addr) (o:Obj) (pm cd doc:Value) (a:Addr) (vs:List Value) (ns:List Int),
   Ground q loose [] XP w s₀ mg mb s₁.heap→YP w s₁.heap→
   s₁.heap.get? fa=some o→o.data= .func (docDef d.name d.params d.body d.scope pm cd doc)→s₁.heap.CodeRec cd d.name→mg d.name=some (.ref fa)→
   s₁.heap.get? a=some {cls:= .type "list",data:= .seq vs.toArray}→IntsAre vs ns→ns.length≤n→s₁.gens= #[]→
   codeAny (model l.prog w) callerA (.call (.ref fa) ⟨[.ref a], []⟩) (fun r s'=>r= .ok (.ret (.bool true))∧OldK s₁.heap s'.heap∧s'.os=s₁.os∧AllBare s'.gens) s₁):
  WalkO q loose XP YP l.row.toRowW d [] (fun f vs=>PySem.call f vs):=by
 intro w s₀ s₁ mg mb G Y fa o pm cd doc dV kV ho hd hcd hD hmg hg args vals as bg hlay hrd hwl hlo;obtain rfl:dV= .none:=Dflts.none hD hdf;obtain rfl:kV= .none:=Dflts.noKw hD;obtain⟨a,vs,ns,rfl,rfl,az,hints,zk⟩:=cd_0 hn bg hwl;refine enter_call (codeAny_mono (call w s₀ s₁ mg mb fa o pm cd doc a vs ns G Y ho (fd_plain hd) hcd hmg az hints zk hg) fun r s' hq=> ?_);obtain⟨rfl,h2,h3,h4⟩:=hq;exact⟨.inl ⟨.bool true, .bool true, [],rfl,fun _=>rfl, .bool true,cd_1 l _,fun _=>⟨List.Pairwise.nil,fun _ hm=>(nomatch hm)⟩⟩,h2,h3,h4⟩
section
variable{prog:Program}{w:World}{A:Around}{E:Value→Shared→Prop}{s:Shared}{K:Frag}
end
end Att
namespace L2
open PySem PySem.Spec PyProof.Rows
theorem aw_9:∀{vs:List Value} {ns:List Int},IntsAre vs ns→Vals (ns.map V.int) vs
 |_,_, .nil=> .nil
 |_,_, .cons n t h=> .cons ⟨t,rfl⟩ (aw_9 h)
def Only(H:Hp):Prop:=∀b,H b=none∨∃o xs,H b=some (.frz o (.lst xs))
theorem cj_9{P:Program}{w:World}{K:Frag}{mg mb:Str→Option Value}{CX:CXT}{k:Nat}{fa a:Addr}{fd:FuncData}{x:Str}{sp:Sp}{s₁:Shared}{vs:List Value}{ns:List Int}
  (KX:K.In s₁.heap) (hns:s₁.heap.Ns mainGlobals mg) (hb:s₁.heap.Ns builtinsNs mb) (hbb:∀x:Str,x≠ "__name__" →mb x=bootBuiltins x) (fb:s₁.heap.NoLimit) (hg:s₁.gens= #[])
  (ha:s₁.heap.get? a=some {cls:= .type "list",data:= .seq vs.toArray}) (hi:IntsAre vs ns) (hl:ns.length≤sizeLine) (hr:Room k callerA)
  (F:∀base:Heap,K.In base→base.Ns mainGlobals mg→FnOk P w K mg base CX k fa fd [x] sp) (cu:∀(s:Shared) (u:Value),BindsTo s fd ⟨[u], []⟩ [(x,u)])
  (hsp:∀H:Hp,Only H→SqL K H a (ns.map V.int)→sp [.ref a] H (fun v _=>v= .bl true) fun _ _ _=>False)
  (hCX:∀H e s',CX [] H s₁ (fun _ _ _=>False) e s'→False):
  codeAny (model P w) callerA (.call (.ref fa) ⟨[.ref a], []⟩) (fun r s'=>r= .ok (.ret (.bool true))∧OldK s₁.heap s'.heap∧s'.os=s₁.os∧AllBare s'.gens) s₁:=by
 have rv:=aw_9 hi;have dn:=hi.length
 
 have core:∀H:Hp,Only H→SqL K H a (ns.map V.int)→HOk P w H s₁.heap→(∀b,H b≠none→b=a)→(H a≠none→K.lookup a=none)→
   codeAny (model P w) callerA (.call (.ref fa) ⟨[.ref a], []⟩) (fun r s'=>r= .ok (.ret (.bool true))∧OldK s₁.heap s'.heap∧s'.os=s₁.os∧AllBare s'.gens) s₁:=by
  intro H hO hS hok hA hK;have aj:∀{b:Addr} {o:Obj},s₁.heap.get? b=some o→H b=none→(hidT s₁.heap H).get? b=some o:=fun e n=>ch_9 e n;have noA:∀{b:Addr} {o:Obj} {es:Array DictEntry} {ep:Nat},s₁.heap.get? b=some o→o.data= .dict es ep→H b=none:=fun{b o es ep} e d=>by
   cases q:H b with
   |none=>rfl
   |some u=>
    have e':b=a:=hA b (by rw [q];simp);subst e';rw [ha] at e;cases e;have d':Data.seq vs.toArray _=Data.dict es ep:=d;cases d'
  have nsK:∀{b:Addr} {m:Str→Option Value},s₁.heap.Ns b m→(hidT s₁.heap H).Ns b m:=fun{b m} ⟨o,es,ep,e,d,r⟩=>⟨o,es,ep,aj e (noA e d),d,r⟩;have hKb:K.In (hidT s₁.heap H):=fun b o e=>aj (KX b o e) (by
   cases q:H b with
   |none=>rfl
   |some u=>
    have e':b=a:=hA b (by rw [q];simp);subst e';rw [hK (by rw [q];simp)] at e;cases e)
  have hM:Mod K mg (hidT s₁.heap H):=⟨hKb,nsK hns,⟨mb,nsK hb,hbb⟩,let⟨mc,h1,h2⟩:=fb;⟨mc,nsK h1,h2⟩⟩;have e0:Env0 P w K mg (hidT s₁.heap H) callerA [] s₁ H:=⟨rfl,hM,fun b o e=>cs_6 e,Nat.le_of_eq (cb_9 _ _),trivial,fun b hb=>absurd (show b∈([]:List Addr) from hb) (by simp),hok, .of_eq hg⟩;refine codeAny_mono ((F _ hKb (nsK hns)).run callerA [] s₁ H ⟨[.ref a], []⟩ [.ref a] [.ref a] _ _ hr e0 (cu s₁ (.ref a)) (.cons rfl .nil) (hsp H hO hS)) fun r s' h=> ?_;cases r with
  |error e=>exact(hCX H e s' h).elim
  |ok fl=>
   cases fl with
   |next=>exact False.elim h
   |brk=>exact False.elim h
   |cont=>exact False.elim h
   |ret u=>
    obtain⟨v,H',os,bare,un,ff,r',q⟩:=h;have q':v= .bl true:=q;subst q';obtain rfl:u=Value.bool true:=r';refine⟨rfl,OldK.of_keep fun b o e=> ?_,os,bare⟩;cases q:H b with
    |none=>exact un.keep b o e q (by intro z;exact absurd (show b∈([]:List Addr) from z) (by simp)) (by simp)
    |some u=>
     rcases hO b with z|⟨ob,xs,z⟩
     ·rw [q] at z;cases z
     ·have z2:=un.frzs b ob _ z;obtain⟨e1,_⟩:=hok b _ z;obtain⟨e2,_⟩:=ff b _ z2;rw [e] at e1;cases e1;exact e2
 cases hk:K.lookup a with
 |some o=>
  
  have e:=KX a o hk;rw [ha] at e;cases e;refine core (fun _=>none) (fun _=> .inl rfl) (.inr ⟨_,vs.toArray,_,hk,rfl,rfl,rfl,by rw [List.size_toArray,dn];exact hl,by simpa using rv⟩) (fun b u z=>by have z':(none:Option HO)=some u:=z;cases z') (fun b z=>absurd rfl z) fun z=>absurd rfl z
 |none=>
  refine core (fun b=>if b=a then some (.frz {cls:= .type "list",data:= .seq vs.toArray} (.lst (ns.map V.int))) else none) (fun b=> ?_) (.inl (.inr ⟨{cls:= .type "list",data:= .seq vs.toArray},if_pos rfl⟩)) (fun b u z=> ?_) (fun b z=> ?_) fun _=>hk
  ·by_cases hb:b=a
   ·exact .inr ⟨_,_,if_pos hb⟩
   ·exact .inl (if_neg hb)
  ·by_cases hb:b=a
   ·have z':=(if_pos hb).symm.trans z;cases z';subst hb;exact⟨ha,by rw [List.length_map];exact hl,vs,_,rv,ha⟩
   ·have z':=(if_neg hb).symm.trans z;cases z'
  ·by_cases hb:b=a
   ·exact hb
   ·exact absurd (if_neg hb) z
theorem cu_2{l:PySem.W.OpenLaw}{n k:Nat}{q:Program}{loose:List Str}{XP:(Str→Option Value)→Heap→Prop}{YP:World→Heap→Prop}{d:DefRec}{K:Params→Frag}{CX:World→CXT}{sp:World→Sp}{x:Str}
  (hn:l.most=some n) (hn2:n≤sizeLine) (hdf:d.params.defaults= []) (hr:Room k callerA)
  (hY:∀(w:World) (h:Heap),YP w h→(K w.params).In h)
  (F:∀(w:World) (mg:Str→Option Value) (fa:Addr) (h:Heap),(K w.params).In h→h.Ns mainGlobals mg→mg d.name=some (.ref fa)→
   ∃fd:FuncData,(∀(s:Shared) (u:Value),BindsTo s fd ⟨[u], []⟩ [(x,u)])∧
    ∀base:Heap,(K w.params).In base→base.Ns mainGlobals mg→FnOk l.prog w (K w.params) mg base (CX w) k fa fd [x] (sp w))
  (hsp:∀(w:World) (H:Hp) (a:Addr) (ns:List Int),ns.length≤n→Only H→SqL (K w.params) H a (ns.map V.int)→sp w [.ref a] H (fun v _=>v= .bl true) fun _ _ _=>False)
  (hCX:∀(w:World) (H:Hp) (s:Shared) (e:Value) (s':Shared),CX w [] H s (fun _ _ _=>False) e s'→False):
  PySem.W.WalkO q loose XP YP l.row.toRowW d [] (fun f vs=>PySem.call f vs):=by
 refine Att.attach_call hn hdf fun w s₀ s₁ mg mb fa o pm cd doc a vs ns G Y ho hd hcd hmg az hints zk hg=> ?_;have KX:=hY w _ Y;obtain⟨fd,hb,hF⟩:=F w mg fa _ KX G.T.g hmg;exact cj_9 KX G.T.g G.T.b G.T.builtins G.T.nolimit hg az hints (Nat.le_trans zk hn2) hr hF hb (fun H hO hS=>hsp w H a ns zk hO hS) fun H e s'=>hCX w H s₁ e s'
def j_8(s:Stmt):Arguments:=match s with
 | .FunctionDef _ a _ _ _ _ _ _ _ _=>a
 |_=>{posonlyargs:= [],args:= [],vararg:=none,kwonlyargs:= [],kw_defaults:= [],kwarg:=none,defaults:= []}
def f_4(s:Stmt):List Stmt:=match s with
 | .FunctionDef _ _ b _ _ _ _ _ _ _=>b
 |_=> []
def b_5(s:Stmt):Scope:=match s with
 | .FunctionDef _ _ _ _ _ _ sc _ _ _=>sc
 |_=>{kind:= .function,names:= [],isGenerator:=false,isCoroutine:=false}
abbrev CX0:CXT:=fun _ _ _ _ _ _=>False
abbrev E0:XK:=fun _ _ _=>False
structure Fun(K:Frag)(x qual:Str)(st:Stmt)(f:Addr)(fd:FuncData):Prop where
 ex:∃(oc:Value) (od:Option Addr) (kV doc pm:Value) (an:Option Addr) (zp ct:Value) (osl:Array (Option Value)),
  fd=fnOf x qual (j_8 st) (f_4 st) (b_5 st) .none kV doc pm an zp ct∧K.lookup f=some ⟨oc,od, .func fd,osl⟩∧codeIn K zp qual=true
 kp:keepIn K (.ref f)=true
section
variable{P:Program}{w:World}{K:Frag}{mg:Str→Option Value}{base:Heap}
theorem Fun.binds{x qual:Str}{st:Stmt}{f:Addr}{fd:FuncData}{ps:List Str}(F:Fun K x qual st f fd)
  (h:∀(kV doc pm:Value) (an:Option Addr) (zp ct:Value) (us:List Value),us.length=ps.length→bindArgs (fnOf x qual (j_8 st) (f_4 st) (b_5 st) .none kV doc pm an zp ct) ⟨us, []⟩=pure (ps.zip us)):Binds K fd ps []:=by
 obtain⟨oc,od,kV,doc,pm,an,zp,ct,osl,rfl,lk,hcd⟩:=F.ex;exact .all (h kV doc pm an zp ct)
theorem bq_5{x qual:Str}{st:Stmt}{f:Addr}{oc:Value}{od an:Option Addr}{osl:Array (Option Value)}{kV doc pm zp ct:Value}(l:K.lookup f=some ⟨oc,od, .func (fnOf x qual (j_8 st) (f_4 st) (b_5 st) .none kV doc pm an zp ct),osl⟩)
  (c:codeIn K zp qual=true) (k:keepIn K (.ref f)=true):Fun K x qual st f (fnOf x qual (j_8 st) (f_4 st) (b_5 st) .none kV doc pm an zp ct):=⟨⟨oc,od,kV,doc,pm,an,zp,ct,osl,rfl,l,c⟩,k⟩
end
section
variable{X:Cx}
theorem pv(i:Nat){x:Str}{pos:Pos}(hN:X.N[i]? =some x:=by rfl)(hv:Vis X.env.scope x:=by first|exact Or.inl rfl|exact Or.inr (Or.inl rfl)|exact Or.inr (Or.inr rfl))(hd:(x ==("__debug__" :Str))=false:=by decide)
  (hcd:(x ==("__classdict__" :Str))=false:=by decide):PE X (.Name x pos) (tVar i):=j_7 hN hv hd hcd
end
def Same(H H':Hp):Prop:=∀b o,H b=some o→H' b=some o
theorem Same.refl(H:Hp):Same H H:=fun _ _ h=>h
theorem Same.trans{H H1 H2:Hp}(a:Same H H1)(b:Same H1 H2):Same H H2:=fun c o h=>b c o (a c o h)
theorem Same.free{H H':Hp}(e:Same H H'){l:Addr}(h:H' l=Option.none):H l=Option.none:=by
 cases q:H l with
 |none=>rfl
 |some o=>
  rw [e l o q] at h;cases h
theorem Same.seq{K:Frag}{H H':Hp}{a:Addr}{xs:List V}(e:Same H H')(h:SqL K H a xs):SqL K H' a xs:=by
 rcases h with(h|⟨o,h⟩)|h
 ·exact .inl (.inl (e _ _ h))
 ·exact .inl (.inr ⟨o,e _ _ h⟩)
 ·exact .inr h
end L2
namespace L3
open PySem PySem.Spec PyProof.Rows L2
variable{K:Frag}{fd:FuncData}{mg:Str→Option Value}{us:List Value}{base:Heap}{H:Hp}{X:Cx}{pos:Pos}{v:V}
abbrev Sg:=L2.St
inductive D where
 |non|bl (b:Bool)|int (i:Int)|str (x:Str)|lst (ds:List D)|tup (ds:List D)|dic (kvs:List (Key×D))
 |exn (c:Str) (ns:List Str) (vs:List D)|obj (c:Str) (ns:List Str) (vs:List D)
structure Xn where
 c:Str
 ns:List Str
 vs:List D
inductive R(α:Type) where
 |ok (a:α)|ex (x:Xn)|no
namespace R
def bind{α β:Type}(r:R α)(k:α→R β):R β:=match r with
 | .ok a=>k a
 | .ex x=> .ex x
 | .no=> .no
@[simp] theorem bind_ok{α β:Type}(a:α)(k:α→R β):(R.ok a).bind k=k a:=rfl
@[simp] theorem bind_ex{α β:Type}(x:Xn)(k:α→R β):(R.ex x).bind k= .ex x:=rfl
@[simp] theorem bind_no{α β:Type}(k:α→R β):(R.no).bind k= .no:=rfl
end R
inductive Tn where
 |sh (d:D)|lst (ts:List Tn)|tup (ts:List Tn)|dic (zm:List (Key×Tn))|obj (c:Str) (ns:List Str) (ts:List Tn)
mutual
def Tn.d:Tn→D
 | .sh d=>d
 | .lst ts=> .lst (Tn.ds ts)
 | .tup ts=> .tup (Tn.ds ts)
 | .dic zm=> .dic (Tn.ks zm)
 | .obj c ns ts=> .obj c ns (Tn.ds ts)
def Tn.ds:List Tn→List D
 | []=> []
 |t::ts=>t.d::Tn.ds ts
def Tn.ks:List (Key×Tn)→List (Key×D)
 | []=> []
 |(k,t)::ts=>(k,t.d)::Tn.ks ts
end
def Tn.of:D→Tn
 | .lst ds=> .lst (ds.map .sh)
 | .dic kvs=> .dic (kvs.map fun p=>(p.1, .sh p.2))
 | .obj c ns vs=> .obj c ns (vs.map .sh)
 |d=> .sh d
theorem Tn.ds_sh:∀ds:List D,Tn.ds (ds.map .sh)=ds
 | []=>rfl
 |d::ds=>by
  show(Tn.sh d).d::Tn.ds (ds.map .sh)=_;rw [Tn.ds_sh ds];rfl
theorem Tn.ks_sh:∀kvs:List (Key×D),Tn.ks (kvs.map fun p=>(p.1,Tn.sh p.2))=kvs
 | []=>rfl
 |(k,d)::kvs=>by
  show(k,(Tn.sh d).d)::Tn.ks (kvs.map fun p=>(p.1,Tn.sh p.2))=_;rw [Tn.ks_sh kvs];rfl
theorem Tn.ks_fst:∀zm:List (Key×Tn),(Tn.ks zm).map (·.1)=zm.map (·.1)
 | []=>rfl
 |(k,t)::zm=>by show k::(Tn.ks zm).map (·.1)=_;rw [Tn.ks_fst zm];rfl
theorem Tn.ks_snd:∀zm:List (Key×Tn),(Tn.ks zm).map (·.2)=Tn.ds (zm.map (·.2))
 | []=>rfl
 |(k,t)::zm=>by show t.d::(Tn.ks zm).map (·.2)=_;rw [Tn.ks_snd zm];rfl
theorem Tn.of_d(d:D):(Tn.of d).d=d:=by
 cases d with
 |lst ds=>show D.lst (Tn.ds (ds.map .sh))=_;rw [Tn.ds_sh]
 |dic kvs=>show D.dic (Tn.ks (kvs.map fun p=>(p.1, .sh p.2)))=_;rw [Tn.ks_sh]
 |obj c ns vs=>show D.obj c ns (Tn.ds (vs.map .sh))=_;rw [Tn.ds_sh]
 |_=>rfl
inductive W where
 |sh (d:D)|ow (d:D)|tr (t:Tn)
def W.d:W→D
 | .sh d=>d
 | .ow d=>d
 | .tr t=>t.d
@[simp] theorem W.d_sh(d:D):(W.sh d).d=d:=rfl
@[simp] theorem W.d_ow(d:D):(W.ow d).d=d:=rfl
@[simp] theorem W.d_tr(t:Tn):(W.tr t).d=t.d:=rfl
def ClsAt(K:Frag)(c:Str)(C:Addr):Prop:=nsIn K mainGlobals c=some (some (.ref C))
def XO(a C:Addr)(dx:Option Addr):HO:= .ext fun h=>∃us sl,h.get? a=some ⟨.ref C,dx, .fields us,sl⟩∧us[2]? =some .none
mutual
inductive Has(K:Frag)(G:Hp):V→D→Prop where
 |non:Has K G .non .non
 |bl (b:Bool):Has K G (.bl b) (.bl b)
 |int (i:Int):Has K G (.int i) (.int i)
 |str (x:Str):Has K G (.str x) (.str x)
 |lst {a:Addr} {vs:List V} {ds:List D} (h:SqL K G a vs) (r:HasL K G vs ds):Has K G (.ref a) (.lst ds)
 |tup {a:Addr} {vs:List V} {ds:List D} (h:SqT K G a vs) (r:HasL K G vs ds):Has K G (.ref a) (.tup ds)
 |exn0 {a C:Addr} {o:Obj} {c:Str} (hc:ClsAt K c C) (h:G a=some (.frz o (XO a C none))):Has K G (.ref a) (.exn c [] [])
 |exn1 {a C d:Addr} {o:Obj} {c:Str} {ns:List Str} {us:List V} {vs:List D} (hc:ClsAt K c C) (h:G a=some (.frz o (XO a C (some d)))) (hd:G d=some (.xd (ns.zip us))) (hl:ns.length=us.length) (r:HasL K G us vs):Has K G (.ref a) (.exn c ns vs)
 |dic {a:Addr} {kvs:List (Key×V)} {kds:List (Key×D)} (h:Rd G a (.dK kvs)) (hk:kvs.map (·.1)=kds.map (·.1)) (r:HasL K G (kvs.map (·.2)) (kds.map (·.2))):Has K G (.ref a) (.dic kds)
 |obj {a C dx:Addr} {c:Str} {ns:List Str} {us:List V} {vs:List D} (hc:ClsAt K c C) (h:G a=some (.ins C dx (ns.zip us))) (hl:ns.length=us.length) (r:HasL K G us vs):Has K G (.ref a) (.obj c ns vs)
inductive HasL(K:Frag)(G:Hp):List V→List D→Prop where
 |nil:HasL K G [] []
 |cons {v:V} {d:D} {vs:List V} {ds:List D} (h:Has K G v d) (r:HasL K G vs ds):HasL K G (v::vs) (d::ds)
end
abbrev AS:=Addr→Prop
mutual
inductive Ow(K:Frag)(G H:Hp):V→Tn→AS→Prop where
 |sh {v:V} {d:D} {S:AS} (h:Has K G v d):Ow K G H v (.sh d) S
 |lst {a:Addr} {vs:List V} {ts:List Tn} {S S1:AS} (h:H a=some (.lst vs)) (ha:S a) (sub:∀b,S1 b→S b∧b≠a) (r:OwL K G H vs ts S1):Ow K G H (.ref a) (.lst ts) S
 |tup {a:Addr} {vs:List V} {ts:List Tn} {S S1:AS} (h:H a=some (.tup vs)) (ha:S a) (sub:∀b,S1 b→S b∧b≠a) (r:OwL K G H vs ts S1):Ow K G H (.ref a) (.tup ts) S
 |dic {a:Addr} {kvs:List (Key×V)} {zm:List (Key×Tn)} {S S1:AS} (h:H a=some (.dK kvs)) (hk:kvs.map (·.1)=zm.map (·.1)) (ha:S a) (sub:∀b,S1 b→S b∧b≠a) (r:OwL K G H (kvs.map (·.2)) (zm.map (·.2)) S1):Ow K G H (.ref a) (.dic zm) S
 |obj {a C dx:Addr} {c:Str} {ns:List Str} {us:List V} {ts:List Tn} {S S1:AS} (hc:ClsAt K c C) (h:H a=some (.ins C dx (ns.zip us))) (hl:ns.length=us.length) (ha:S a) (sub:∀b,S1 b→S b∧b≠a) (r:OwL K G H us ts S1):Ow K G H (.ref a) (.obj c ns ts) S
inductive OwL(K:Frag)(G H:Hp):List V→List Tn→AS→Prop where
 |nil {S:AS}:OwL K G H [] [] S
 |cons {v:V} {t:Tn} {vs:List V} {ts:List Tn} {S S1 S2:AS} (h:Ow K G H v t S1) (r:OwL K G H vs ts S2) (dj:∀b,S1 b→S2 b→False) (s1:∀b,S1 b→S b) (s2:∀b,S2 b→S b):OwL K G H (v::vs) (t::ts) S
end
theorem Same.rdD{H H':Hp}{a:Addr}{u:HO}(e:Same H H')(h:Rd H a u):Rd H' a u:=by
 rcases h with h|⟨o,h⟩
 ·exact .inl (e _ _ h)
 ·exact .inr ⟨o,e _ _ h⟩
theorem Same.tupS{H H':Hp}{a:Addr}{xs:List V}(e:Same H H')(h:SqT K H a xs):SqT K H' a xs:=by
 rcases h with(h|⟨o,h⟩)|h
 ·exact .inl (.inl (e _ _ h))
 ·exact .inl (.inr ⟨o,e _ _ h⟩)
 ·exact .inr h
mutual
theorem Has.mono{G G':Hp}(e:Same G G'):∀{v:V} {d:D},Has K G v d→Has K G' v d
 |_,_, .non=> .non
 |_,_, .bl b=> .bl b
 |_,_, .int i=> .int i
 |_,_, .str x=> .str x
 |_,_, .lst h r=> .lst (e.seq h) (HasL.mono e r)
 |_,_, .tup h r=> .tup (Same.tupS e h) (HasL.mono e r)
 |_,_, .exn0 hc h=> .exn0 hc (e _ _ h)
 |_,_, .exn1 hc h hd hl r=> .exn1 hc (e _ _ h) (e _ _ hd) hl (HasL.mono e r)
 |_,_, .dic h hk r=> .dic (Same.rdD e h) hk (HasL.mono e r)
 |_,_, .obj hc h hl r=> .obj hc (e _ _ h) hl (HasL.mono e r)
theorem HasL.mono{G G':Hp}(e:Same G G'):∀{vs:List V} {ds:List D},HasL K G vs ds→HasL K G' vs ds
 |_,_, .nil=> .nil
 |_,_, .cons h r=> .cons (Has.mono e h) (HasL.mono e r)
end
theorem HasL.length{G:Hp}:∀{vs:List V} {ds:List D},HasL K G vs ds→vs.length=ds.length
 |_,_, .nil=>rfl
 |_,_, .cons _ r=>by rw [List.length_cons,List.length_cons,r.length]
theorem HasL.append{G:Hp}:∀{vs ws:List V} {ds es:List D},HasL K G vs ds→HasL K G ws es→HasL K G (vs ++ ws) (ds ++ es)
 |_,_,_,_, .nil,s=>s
 |_,_,_,_, .cons h r,s=> .cons h (r.append s)
theorem HasL.get{G:Hp}:∀{vs:List V} {ds:List D} {i:Nat} {d:D},HasL K G vs ds→ds[i]? =some d→∃v,vs[i]? =some v∧Has K G v d
 |_,_,_,_, .nil,e=>by simp at e
 |_,_,0,_, .cons h _,e=>by simp at e;subst e;exact⟨_,rfl,h⟩
 |_,_,i + 1,d, .cons _ r,e=>by
  obtain⟨u,h1,h2⟩:=HasL.get (i:=i) (d:=d) r (by simpa using e);exact⟨u,by simpa using h1,h2⟩
theorem HasL.take{G:Hp}:∀{vs:List V} {ds:List D} (n:Nat),HasL K G vs ds→HasL K G (vs.take n) (ds.take n)
 |_,_,0,_=> .nil
 |_,_,_ + 1, .nil=> .nil
 |_,_,n + 1, .cons h r=> .cons h (HasL.take n r)
theorem HasL.drop{G:Hp}:∀{vs:List V} {ds:List D} (n:Nat),HasL K G vs ds→HasL K G (vs.drop n) (ds.drop n)
 |_,_,0,r=>r
 |_,_,_ + 1, .nil=> .nil
 |_,_,n + 1, .cons _ r=>HasL.drop n r
theorem HasL.set{G:Hp}{d:D}(h:Has K G v d):∀{vs:List V} {ds:List D} (i:Nat),HasL K G vs ds→HasL K G (vs.set i v) (ds.set i d)
 |_,_,_, .nil=> .nil
 |_,_,0, .cons _ r=> .cons h r
 |_,_,i + 1, .cons q r=> .cons q (HasL.set h i r)
mutual
theorem Ow.mono{G G' H H':Hp}(e:Same G G'):∀{v:V} {d:Tn} {S S':AS},Ow K G H v d S→(∀b o,S b→H b=some o→H' b=some o)→(∀b,S b→S' b)→Ow K G' H' v d S'
 |_,_,_,_, .sh h,_,_=> .sh (h.mono e)
 |_,_,_,_, .lst h ha sub r,f,i=> .lst (f _ _ ha h) (i _ ha) (fun b hb=>⟨i b (sub b hb).1,(sub b hb).2⟩) (OwL.mono e r (fun b o hb q=>f b o (sub b hb).1 q) fun _ q=>q)
 |_,_,_,_, .tup h ha sub r,f,i=> .tup (f _ _ ha h) (i _ ha) (fun b hb=>⟨i b (sub b hb).1,(sub b hb).2⟩) (OwL.mono e r (fun b o hb q=>f b o (sub b hb).1 q) fun _ q=>q)
 |_,_,_,_, .dic h hk ha sub r,f,i=> .dic (f _ _ ha h) hk (i _ ha) (fun b hb=>⟨i b (sub b hb).1,(sub b hb).2⟩) (OwL.mono e r (fun b o hb q=>f b o (sub b hb).1 q) fun _ q=>q)
 |_,_,_,_, .obj hc h hl ha sub r,f,i=> .obj hc (f _ _ ha h) hl (i _ ha) (fun b hb=>⟨i b (sub b hb).1,(sub b hb).2⟩) (OwL.mono e r (fun b o hb q=>f b o (sub b hb).1 q) fun _ q=>q)
theorem OwL.mono{G G' H H':Hp}(e:Same G G'):∀{vs:List V} {ds:List Tn} {S S':AS},OwL K G H vs ds S→(∀b o,S b→H b=some o→H' b=some o)→(∀b,S b→S' b)→OwL K G' H' vs ds S'
 |_,_,_,_, .nil,_,_=> .nil
 |_,_,_,_, .cons h r dj s1 s2,f,i=> .cons (Ow.mono e h (fun b o hb q=>f b o (s1 b hb) q) fun _ q=>q) (OwL.mono e r (fun b o hb q=>f b o (s2 b hb) q) fun _ q=>q) dj (fun b q=>i b (s1 b q)) fun b q=>i b (s2 b q)
end
mutual
theorem Ow.has{G G' H:Hp}(e:Same G G'):∀{v:V} {d:Tn} {S:AS},Ow K G H v d S→(∀b o,S b→H b=some o→G' b=some o)→Has K G' v d.d
 |_,_,_, .sh h,_=>h.mono e
 |_,_,_, .lst h ha sub r,f=> .lst (SqL.of (f _ _ ha h)) (OwL.has e r fun b o hb q=>f b o (sub b hb).1 q)
 |_,_,_, .tup h ha sub r,f=> .tup (SqT.of (f _ _ ha h)) (OwL.has e r fun b o hb q=>f b o (sub b hb).1 q)
 |_,_,_, .dic h hk ha sub r,f=> .dic (.inl (f _ _ ha h)) (by rw [Tn.ks_fst];exact hk) (by rw [Tn.ks_snd];exact OwL.has e r fun b o hb q=>f b o (sub b hb).1 q)
 |_,_,_, .obj hc h hl ha sub r,f=> .obj hc (f _ _ ha h) hl (OwL.has e r fun b o hb q=>f b o (sub b hb).1 q)
theorem OwL.has{G G' H:Hp}(e:Same G G'):∀{vs:List V} {ds:List Tn} {S:AS},OwL K G H vs ds S→(∀b o,S b→H b=some o→G' b=some o)→HasL K G' vs (Tn.ds ds)
 |_,_,_, .nil,_=> .nil
 |_,_,_, .cons h r dj s1 s2,f=> .cons (Ow.has e h fun b o hb q=>f b o (s1 b hb) q) (OwL.has e r fun b o hb q=>f b o (s2 b hb) q)
end
theorem OwL.of{G H:Hp}:∀{vs:List V} {ds:List D} {S:AS},HasL K G vs ds→OwL K G H vs (ds.map .sh) S
 |_,_,_, .nil=> .nil
 |_,_,_, .cons h r=> .cons (S1:=fun _=>False) (S2:=fun _=>False) (.sh h) (OwL.of r) (fun _ z _=>z) (fun _ z=>z.elim) fun _ z=>z.elim
theorem OwL.off{G H:Hp}:∀{vs:List V} {ds:List D} {S:AS},OwL K G H vs (ds.map .sh) S→HasL K G vs ds
 |_, [],_,h=>by cases h;exact .nil
 |_,d::ds,_,h=>by
  cases h with
  |cons h r dj s1 s2=>
   cases h with
   |sh h=>exact .cons h (OwL.off r)
theorem OwL.length{G H:Hp}:∀{vs:List V} {ds:List Tn} {S:AS},OwL K G H vs ds S→vs.length=ds.length
 |_,_,_, .nil=>rfl
 |_,_,_, .cons _ r _ _ _=>by rw [List.length_cons,List.length_cons,r.length]
theorem Ow.list{G H:Hp}{a:Addr}{vs:List V}{ds:List D}{S:AS}(h:H a=some (.lst vs))(ha:S a)(r:HasL K G vs ds):Ow K G H (.ref a) (Tn.of (.lst ds)) S:=
 .lst (S1:=fun _=>False) h ha (fun _ z=>z.elim) (.of r)
theorem Ow.list_of{G H:Hp}{ds:List D}{S:AS}(t:Ow K G H v (Tn.of (.lst ds)) S):∃a vs,v= .ref a∧S a∧H a=some (.lst vs)∧HasL K G vs ds:=by
 cases t with
 |lst h ha sub r=>exact⟨_,_,rfl,ha,h,r.off⟩
theorem ck_0(kds:List (Key×D)):(kds.map fun p=>(p.1,Tn.sh p.2)).map (·.2)=(kds.map (·.2)).map Tn.sh:=by
 rw [List.map_map,List.map_map];rfl
theorem bw_5(kds:List (Key×D)):(kds.map fun p=>(p.1,Tn.sh p.2)).map (·.1)=kds.map (·.1):=by
 rw [List.map_map];rfl
theorem Ow.dict{G H:Hp}{a:Addr}{kvs:List (Key×V)}{kds:List (Key×D)}{S:AS}(h:H a=some (.dK kvs))(hk:kvs.map (·.1)=kds.map (·.1))(ha:S a)(r:HasL K G (kvs.map (·.2)) (kds.map (·.2))):Ow K G H (.ref a) (Tn.of (.dic kds)) S:=
 .dic (S1:=fun _=>False) h (by rw [bw_5];exact hk) ha (fun _ z=>z.elim) (by rw [ck_0];exact .of r)
theorem Ow.dict_of{G H:Hp}{kds:List (Key×D)}{S:AS}(t:Ow K G H v (Tn.of (.dic kds)) S):∃a kvs,v= .ref a∧S a∧H a=some (.dK kvs)∧kvs.map (·.1)=kds.map (·.1)∧HasL K G (kvs.map (·.2)) (kds.map (·.2)):=by
 generalize e:Tn.of (.dic kds)=t' at t;cases t with
 |dic h hk ha sub r=>
  injection e with e
  subst e;rw [ck_0] at r;rw [bw_5] at hk;exact⟨_,_,rfl,ha,h,hk,r.off⟩
 |_=>cases e
structure Step(G H G' H':Hp):Prop where
 hh:Same H H'
 gh:Same G' H'
 gg:Same G G'
 nw:∀b,G b=none→H b≠none→G' b=none
theorem Step.refl{G H:Hp}(h:Same G H):Step G H G H:=⟨Same.refl _,h,Same.refl _,fun _ e _=>e⟩
theorem Step.trans{G H G1 H1 G2 H2:Hp}(a:Step G H G1 H1)(b:Step G1 H1 G2 H2):Step G H G2 H2:=
 ⟨a.hh.trans b.hh,b.gh,a.gg.trans b.gg,fun c e n=>b.nw c (a.nw c e n) fun z=>n (a.hh.free z)⟩
theorem k_5{p:Addr}(h:H p=none)(o:HO):Same H (upd H p o):=fun b u q=>by rw [a_5 (b_9 q h)];exact q
theorem ap_1{G H:Hp}(h:Same G H)(p:Addr)(o:HO):Same (upd G p o) (upd H p o):=fun b u q=>by
 by_cases e:b=p
 ·subst e;rw [a_9] at q⊢;exact q
 ·rw [a_5 e] at q⊢;exact h b u q
theorem Step.new{G H:Hp}(h:Same G H){p:Addr}(e:H p=none)(o:HO):Step G H (L2.upd G p o) (L2.upd H p o):=
 ⟨k_5 e o,ap_1 h p o,k_5 (h.free e) o,fun b n z=>by
  by_cases q:b=p
  ·subst q;exact absurd e z
  ·rw [a_5 q];exact n⟩
theorem Step.own{G H:Hp}(h:Same G H){p:Addr}(e:H p=none)(o:HO):Step G H G (L2.upd H p o):=
 ⟨k_5 e o,h.trans (k_5 e o),Same.refl _,fun _ n _=>n⟩
open Classical in
def e_7(G H:Hp)(S:AS):Hp:=fun b=>if S b then H b else G b
def WP(K:Frag)(G H:Hp)(w:W)(Q:VK):Prop:=match w with
 | .sh d=>∀v G' H',Step G H G' H'→Has K G' v d→Q v H'
 | .ow d=>∀v S G' H',Step G H G' H'→(∀a,S a→H a=none∧G' a=none∧H' a≠none)→Ow K G' H' v (Tn.of d) S→Q v H'
 | .tr t=>∀v S G' H',Step G H G' H'→(∀a,S a→H a=none∧G' a=none∧H' a≠none)→Ow K G' H' v t S→Q v H'
structure EXT where
 p:Xn→Hp→Hp→Prop
 mono:∀x G H G' H',Step G H G' H'→p x G H→p x G' H'
def EX0:EXT:=⟨fun _ _ _=>False,fun _ _ _ _ _ _ h=>h⟩
abbrev EXS:=Sg→EXT
def h_7:EXS:=fun _=>EX0
def Out(K:Frag)(EX:EXT)(G H:Hp)(r:R W)(Q:VK):Prop:=match r with
 | .ok w=>WP K G H w Q
 | .ex x=>EX.p x G H
 | .no=>False
section
variable{K:Frag}{EX:EXT}{G H G' H':Hp}{Q Q':VK}{w:W}
theorem WP.mono(s:Step G H G' H')(h:WP K G H w Q):WP K G' H' w Q:=by
 cases w with
 |sh d=>exact fun v G2 H2 s2 r=>h v G2 H2 (s.trans s2) r
 |ow d=>exact fun v S G2 H2 s2 fr t=>h v S G2 H2 (s.trans s2) (fun a ha=>⟨s.hh.free (fr a ha).1,(fr a ha).2⟩) t
 |tr d=>exact fun v S G2 H2 s2 fr t=>h v S G2 H2 (s.trans s2) (fun a ha=>⟨s.hh.free (fr a ha).1,(fr a ha).2⟩) t
theorem Out.mono{r:R W}(s:Step G H G' H')(h:Out K EX G H r Q):Out K EX G' H' r Q:=by
 cases r with
 |ok w=>exact WP.mono s h
 |ex x=>exact EX.mono _ _ _ _ _ s h
 |no=>exact h
theorem WP.join{t:Tn}{S:AS}(h:∀v G' H',Step G H G' H'→Has K G' v t.d→Q v H')(s:Step G H G' H')(fr:∀a,S a→H a=none∧G' a=none∧H' a≠none)(t:Ow K G' H' v t S):Q v H':=by
 have sg:Same G' (e_7 G' H' S):=fun b o q=>by
  unfold e_7
  split
  ·rename_i hb;rw [(fr b hb).2.1] at q;cases q
  ·exact q
 refine h v (e_7 G' H' S) H' ⟨s.hh,fun b o q=> ?_,s.gg.trans sg,fun b n z=> ?_⟩ (t.has sg fun b o hb q=> ?_)
 ·unfold e_7 at q
  split at q
  ·exact q
  ·exact s.gh b o q
 ·unfold e_7
  split
  ·rename_i hb;exact absurd (fr b hb).1 z
  ·exact s.nw b n z
 ·unfold e_7;rw [if_pos hb];exact q
theorem WP.intro(h:∀v G' H',Step G H G' H'→Has K G' v w.d→Q v H'):WP K G H w Q:=by
 cases w with
 |sh d=>exact h
 |ow d=>exact fun v S G' H' s fr t=>WP.join (t:=Tn.of d) (by rw [Tn.of_d];exact h) s fr t
 |tr d=>exact fun v S G' H' s fr t=>WP.join h s fr t
theorem WP.sh(h:WP K G H (.sh w.d) Q):WP K G H w Q:=WP.intro h
theorem WP.use{d:D}(h:WP K G H (.sh d) Q)(s:Same G H)(r:Has K G v d):Q v H:=h v G H (Step.refl s) r
end
inductive ExcAt(K:Frag)(G:Hp):Value→Option Addr→Xn→Prop where
 |bare {C:Addr} {c:Str} (hc:ClsAt K c C):ExcAt K G (.ref C) none ⟨c, [], []⟩
 |with_ {C d:Addr} {c:Str} {ns:List Str} {us:List V} {vs:List D} (hc:ClsAt K c C) (hd:G d=some (.xd (ns.zip us))) (hl:ns.length=us.length) (r:HasL K G us vs):ExcAt K G (.ref C) (some d) ⟨c,ns,vs⟩
def EXof(K:Frag)(E:XK):EXT:=⟨fun x G H=>∀cls dx G' H',Step G H G' H'→ExcAt K G' cls dx x→E cls dx H',fun _ _ _ _ _ s h cls dx G2 H2 s2=>h cls dx G2 H2 (s.trans s2)⟩
def EXE(K:Frag)(EX:EXT):XK:=fun cls dx H=>∃x G,Same G H∧ExcAt K G cls dx x∧EX.p x G H
theorem EXE.of{E:XK}{cls:Value}{dx:Option Addr}(h:EXE K (EXof K E) cls dx H):E cls dx H:=by
 obtain⟨x,G,s,e,q⟩:=h;exact q cls dx G H (Step.refl s) e
theorem EXof.in{EX:EXT}{G H:Hp}{x:Xn}(q:EX.p x G H):(EXof K (EXE K EX)).p x G H:=fun _ _ G' H' st e=>⟨x,G',st.gh,e,EX.mono _ _ _ _ _ st q⟩
abbrev DE:=List (Option D)
abbrev FE:=DE→R W
abbrev FT:=DE→R Bool
abbrev FA:=DE→R (List D)
structure HasS(K:Frag)(G:Hp)(σ:Sg)(δ:DE):Prop where
 len:σ.length=δ.length
 get:∀(i:Nat) (d:D),δ[i]? =some (some d)→∃v,σ[i]? =some (some v)∧Has K G v d
theorem HasS.mono{G G':Hp}{σ:Sg}{δ:DE}(e:Same G G')(h:HasS K G σ δ):HasS K G' σ δ:=⟨h.len,fun i d q=>by
 obtain⟨v,e1,r⟩:=h.get i d q;exact⟨v,e1,r.mono e⟩⟩
def tD(K:Frag)(EX:EXS)(f:FE):TE:=fun σ H Q=>∃G δ,Same G H∧HasS K G σ δ∧Out K (EX σ) G H (f δ) Q
def tDt(K:Frag)(EX:EXS)(f:FT):TT:=fun σ H Q=>∃G δ,Same G H∧HasS K G σ δ∧match f δ with
 | .ok b=>∀G' H',Step G H G' H'→Q b H'
 | .ex x=>(EX σ).p x G H
 | .no=>False
def tDa(K:Frag)(EX:EXS)(f:FA):TA:=fun σ H Q=>∃G δ,Same G H∧HasS K G σ δ∧match f δ with
 | .ok ds=>∀vs G' H',Step G H G' H'→HasL K G' vs ds→Q vs H'
 | .ex x=>(EX σ).p x G H
 | .no=>False
abbrev ED(X:Cx)(EX:EXS)(e:Expr)(f:FE):Prop:=PE X e (tD X.K EX f)
abbrev TD(X:Cx)(EX:EXS)(e:Expr)(f:FT):Prop:=PT X e (tDt X.K EX f)
abbrev AD(X:Cx)(EX:EXS)(es:List Expr)(f:FA):Prop:=PA X es (tDa X.K EX f)
theorem PE.imp{e:Expr}{t t':TE}(h:PE X e t)(i:∀σ H Q,t' σ H Q→t σ H Q):PE X e t':=fun zd s σ H Q I q=>h zd s σ H Q I (i σ H Q q)
theorem PT.imp{e:Expr}{t t':TT}(h:PT X e t)(i:∀σ H Q,t' σ H Q→t σ H Q):PT X e t':=fun zd s σ H Q I q=>h zd s σ H Q I (i σ H Q q)
theorem PW.imp{e:Expr}{t t':TT}(h:PW X e t)(i:∀σ H Q,t' σ H Q→t σ H Q):PW X e t':=fun wh zd s σ H Q I q=>h wh zd s σ H Q I (i σ H Q q)
theorem PA.imp{e:List Expr}{t t':TA}(h:PA X e t)(i:∀σ H Q,t' σ H Q→t σ H Q):PA X e t':=fun pos zd s σ H Q I q=>h pos zd s σ H Q I (i σ H Q q)
theorem PS.imp{e:Stmt}{t t':TS}(h:PS X e t)(i:∀D σ H,t' D σ H→t D σ H):PS X e t':=fun zd s σ H D I q=>h zd s σ H D I (i D σ H q)
theorem PSs.imp{e:List Stmt}{t t':TS}(h:PSs X e t)(i:∀D σ H,t' D σ H→t D σ H):PSs X e t':=fun zd s σ H D I q=>h zd s σ H D I (i D σ H q)
section
variable{K:Frag}{EX:EXS}{G H:Hp}{σ:Sg}{δ:DE}{Q:VK}
theorem tD.seq{f:FE}{k:W→R W}{P:VK}(g:Same G H)(s:HasS K G σ δ)(h:Out K (EX σ) G H ((f δ).bind k) Q)
  (i:∀w v G' H',f δ= .ok w→Step G H G' H'→Has K G' v w.d→Out K (EX σ) G' H' (k w) Q→P v H'):tD K EX f σ H P:=by
 refine⟨G,δ,g,s, ?_⟩;cases e:f δ with
 |ok w=>
  rw [e] at h;exact WP.intro fun v G' H' st r=>i w v G' H' e st r (Out.mono st h)
 |ex x=>rw [e] at h;exact h
 |no=>rw [e] at h;exact h
theorem tDt.seq{f:FT}{k:Bool→R W}{P:Bool→Hp→Prop}(g:Same G H)(s:HasS K G σ δ)(h:Out K (EX σ) G H ((f δ).bind k) Q)
  (i:∀b G' H',f δ= .ok b→Step G H G' H'→Out K (EX σ) G' H' (k b) Q→P b H'):tDt K EX f σ H P:=by
 refine⟨G,δ,g,s, ?_⟩;cases e:f δ with
 |ok w=>
  rw [e] at h;exact fun G' H' st=>i w G' H' e st (Out.mono st h)
 |ex x=>rw [e] at h;exact h
 |no=>rw [e] at h;exact h
theorem tDa.seq{f:FA}{k:List D→R W}{P:List V→Hp→Prop}(g:Same G H)(s:HasS K G σ δ)(h:Out K (EX σ) G H ((f δ).bind k) Q)
  (i:∀ds vs G' H',f δ= .ok ds→Step G H G' H'→HasL K G' vs ds→Out K (EX σ) G' H' (k ds) Q→P vs H'):tDa K EX f σ H P:=by
 refine⟨G,δ,g,s, ?_⟩;cases e:f δ with
 |ok w=>
  rw [e] at h;exact fun vs G' H' st r=>i w vs G' H' e st r (Out.mono st h)
 |ex x=>rw [e] at h;exact h
 |no=>rw [e] at h;exact h
end
theorem v_7{EX:EXT}{G H:Hp}{Q:VK}{ds:List D}{vs:List V}(o:Out K EX G H (.ok (.ow (.lst ds))) Q)(g:Same G H)(r:HasL K G vs ds):∀p,H p=none→Q (.ref p) (upd H p (.lst vs)):=
 fun p hp=>o (.ref p) (fun b=>b=p) G _ (Step.own g hp _) (fun a e=>by subst e;exact⟨hp,g.free hp,by rw [a_9];simp⟩) (.list a_9 rfl r)
end L3
namespace L3
open PySem PySem.Spec PyProof.Rows L2
variable{K:Frag}{fd:FuncData}{mg:Str→Option Value}{us:List Value}{base:Heap}{H:Hp}{X:Cx}{pos:Pos}{v:V}
def HdOk(A:Around)(h:Heap):Prop:=A.handled=none∨∃(x:Addr) (o:Obj) (us:Array Value),A.handled=some (.ref x)∧h.get? x=some o∧o.data= .fields us∧us[2]? =some .none
theorem HdOk.kept{A:Around}{h h':Heap}(z:HdOk A h)(k:∀(x:Addr) (o:Obj),A.handled=some (.ref x)→h.get? x=some o→h'.get? x=some o):HdOk A h':=by
 rcases z with z|⟨x,o,us,e,g,r⟩
 ·exact .inl z
 ·exact .inr ⟨x,o,us,e,k x o e g,r⟩
section
variable{prog:Program}{w:World}{A:Around}{E:Value→Shared→Prop}{s:Shared}
end
structure Tr(h:Heap)(a C:Addr)(dx:Option Addr)(fl:Value)(T:Addr):Prop where
 ob:∃o us,h.get? a=some o∧o.cls= .ref C∧o.dict=dx∧o.data= .fields us∧us[1]? =some (.ref T)∧us[2]? =some .none
 ne:T≠a
 tb:∃o us,h.get? T=some o∧o.data= .fields us∧us[3]? =some fl
structure KeepX(xs fr:List Addr)(h h':Heap):Prop where
 same:∀b o,b∉xs→b∉fr→h.get? b=some o→h'.get? b=some o
 slot:∀b o,b∉xs→h.get? b=some o→∃sl,h'.get? b=some {o with slots:=sl}
theorem KeepX.trans{xs ys fr:List Addr}{h1 h2 h3:Heap}(a:KeepX xs fr h1 h2)(b:KeepX ys fr h2 h3):KeepX (xs ++ ys) fr h1 h3:=
 ⟨fun c o n m e=>b.same c o (fun z=>n (List.mem_append_right _ z)) m (a.same c o (fun z=>n (List.mem_append_left _ z)) m e),fun c o n e=>by
  obtain⟨sl,e1⟩:=a.slot c o (fun z=>n (List.mem_append_left _ z)) e;obtain⟨sl',e2⟩:=b.slot c _ (fun z=>n (List.mem_append_right _ z)) e1;exact⟨sl',e2⟩⟩
theorem KeepX.of_same{xs fr:List Addr}{h h':Heap}(k:∀b o,b∉xs→h.get? b=some o→h'.get? b=some o):KeepX xs fr h h':=
 ⟨fun b o n _ e=>k b o n e,fun b o n e=>⟨o.slots,k b o n e⟩⟩
theorem ck_1(o:Obj)(f:Array Value→Array Value):(o.mapFields f).dict=o.dict:=by
 obtain⟨c,d,dt,sl⟩:=o;cases dt <;> rfl
section
variable{M:Model}{A:Around}{E:Value→Shared→Prop}{s:Shared}{env:Env}{outer:List Env}{base:Heap}{L a C:Addr}{dx:Option Addr}{Q:Unit→Shared→Prop}
theorem bw_6{o:Obj}{us:Array Value}{head:Value}{b:Bool}(hfr:A.frames=some (env::outer))(hl:s.heap.FunFrames base (env::outer))(hf:env.frame=some L)
  (he:s.heap.get? a=some o) (hc:o.cls= .ref C) (hx:o.dict=dx) (hd:o.data= .fields us) (hz:1 < us.size) (c2:us[2]? =some .none)
  (h:∀h' T,s.heap.objs.size≤T→KeepX [a] (frs (env::outer)) s.heap h'→Tr h' a C dx (rawInt L) T→Q () {s with heap:=h'}):
  wpAny M A (do let fv←frameOf env;let pl←entryPlaceOf L b;let en←EntryCells.newEntry head fv .none (rawInt L) .none pl;setField (.ref a) 1 en) Q E s:=by
 have nfr:a∉frs (env::outer):=fun hm=>by
  obtain⟨_,u,hu,hn⟩:=hl.mem hm;rw [he] at hu;cases hu;exact hn us hd
 refine wpAny_bind (wpAny_frameOf_fun hfr hl hf fun h1 so=> ?_);refine wpAny_bind (wpAny_entryPlaceOf fun pl hpl=> ?_);unfold EntryCells.newEntry newFields;refine wpAny_bind (wpAny_newObj_type ?_ (hpl.sizeOk5 _ _ _ _ _));have e1:h1.get? a=some o:=(so.2.1 a nfr).trans he;generalize hT:({cls:= .type "traceback",dict:=none,data:= .fields ([head, .ref L, .none,rawInt L, .none] ++ (if pl.isEmpty then List.replicate 6 Value.none else pl)).toArray}:Obj)=oT;have eT:oT.data= .fields ([head, .ref L, .none,rawInt L, .none] ++ (if pl.isEmpty then List.replicate 6 Value.none else pl)).toArray:=by rw [←hT]
 have e2:(h1.push oT).get? a=some o:=Heap.get?_push_of_some oT e1;refine wpAny_setField e2 hd hz ?_;have sz:h1.objs.size=s.heap.objs.size:=so.1;have ltA:a < s.heap.objs.size:=Heap.lt_size he;have neT:h1.objs.size≠a:=fun z=>absurd ltA (by rw [←z,sz];exact Nat.lt_irrefl _);have d3:=Obj.data_mapFields hd (·.setIfInBounds 1 (Value.ref h1.objs.size));refine h _ h1.objs.size (by rw [sz];exact Nat.le_refl _) ⟨fun b u n m e=> ?_,fun b u n e=> ?_⟩ ⟨⟨_,_,Heap.get?_update_self _ e2 (Obj.isFreed_of_fields d3),(Obj.cls_mapFields _ _).trans hc,(ck_1 _ _).trans hx,d3, ?_, ?_⟩,neT,⟨oT,_, ?_,eT, ?_⟩⟩
 ·have nb:a≠b:=fun z=>n (by simp [z]);rw [Heap.get?_update_other _ _ nb];exact Heap.get?_push_of_some oT ((so.2.1 b m).trans e)
 ·have nb:a≠b:=fun z=>n (by simp [z]);obtain⟨sl,es⟩:=so.2.2 b u e;exact⟨sl,by rw [Heap.get?_update_other _ _ nb];exact Heap.get?_push_of_some oT es⟩
 ·simp [hz]
 ·rw [←c2];simp
 ·rw [Heap.get?_update_other _ _ (Ne.symm neT)];exact Heap.get?_push_size h1 (Obj.isFreed_of_fields eT)
 ·first|(simp;done)|(rcases hpl with rfl|⟨_,_,_,_,_,_,_,rfl⟩ <;> simp)
theorem bq_6{o:Obj}{us:Array Value}(hfr:A.frames=some (env::outer))(hl:s.heap.FunFrames base (env::outer))(hf:env.frame=some L)
  (he:s.heap.get? a=some o) (hc:o.cls= .ref C) (hx:o.dict=dx) (hd:o.data= .fields us) (h1:us[1]? =some .none) (c2:us[2]? =some .none)
  (h:∀h' T,s.heap.objs.size≤T→KeepX [a] (frs (env::outer)) s.heap h'→Tr h' a C dx (rawInt L) T→Q () {s with heap:=h'}):wpAny M A (noteFrame (.ref a) env) Q E s:=by
 unfold noteFrame;simp only [hf];refine wpAny_bind (wpAny_field he hd h1 ?_);rw [if_neg (by decide)];exact bw_6 hfr hl hf he hc hx hd (Array.getElem?_eq_some_iff.mp h1).1 c2 h
theorem ax_0{T0:Addr}(hfr:A.frames=some (env::outer))(hl:s.heap.FunFrames base (env::outer))(hf:env.frame=some L)(t:Tr s.heap a C dx .none T0)
  (h:∀h' T,s.heap.objs.size≤T→KeepX [a,T0] (frs (env::outer)) s.heap h'→Tr h' a C dx (rawInt L) T→Q () {s with heap:=h'}):wpAny M A (noteFrame (.ref a) env) Q E s:=by
 obtain⟨⟨o,us,he,hc,hx,hd,h1,c2⟩,ne,⟨oT,ws,hT,hdT,h3⟩⟩:=t;unfold noteFrame;simp only [hf];refine wpAny_bind (wpAny_field he hd h1 ?_);rw [if_pos (show(Value.ref T0 != Value.none)=true from by simp)];refine wpAny_bind (wpAny_field hT hdT h3 ?_);rw [if_neg (show¬((Value.none ==rawInt L)=true) from by simp [rawInt])];refine wpAny_bind (wpAny_setField hT hdT (Array.getElem?_eq_some_iff.mp h3).1 ?_);have oth:∀b,b≠T0→(s.heap.update T0 (Obj.mapFields (·.setIfInBounds 3 Value.none))).get? b=s.heap.get? b:=fun b hb=>Heap.get?_update_other _ _ (Ne.symm hb);have dq:∀b u,s.heap.get? b=some u→(∀zs,u.data≠ .fields zs)→b≠T0:=fun b u hb hn q=>by
  subst q;rw [hT] at hb;cases hb;exact hn ws hdT
 refine bw_6 (s:={s with heap:=s.heap.update T0 (Obj.mapFields (·.setIfInBounds 3 Value.none))}) hfr (hl.of_keeps fun b u hb hn=>⟨u,(oth b (dq b u hb hn)).trans hb,rfl⟩) hf ((oth a (Ne.symm ne)).trans he) hc hx hd (Array.getElem?_eq_some_iff.mp h1).1 c2 fun h' T n k tr=>h h' T ?_ ?_ tr
 ·have zz:(s.heap.update T0 (Obj.mapFields (·.setIfInBounds 3 Value.none))).objs.size=s.heap.objs.size:=Heap.size_update _ _ _;rw [←zz];exact n
 ·have na:∀b,b∉ [a,T0]→b∉ [a]:=fun b nb z=>nb (by rw [List.mem_singleton.mp z];exact List.mem_cons_self);have nT:∀b,b∉ [a,T0]→b≠T0:=fun b nb z=>nb (by rw [z];simp);exact⟨fun b u nb m e=>k.same b u (na b nb) m ((oth b (nT b nb)).trans e),fun b u nb e=>k.slot b u (na b nb) ((oth b (nT b nb)).trans e)⟩
theorem s_8{T:Addr}{fl:Value}(t:Tr s.heap a C dx fl T)(h:∀h',(∀b o,b∉ [T]→s.heap.get? b=some o→h'.get? b=some o)→Tr h' a C dx .none T→Q () {s with heap:=h'}):wpAny M A (setFlight (.ref a) none) Q E s:=by
 obtain⟨⟨o,us,he,hc,hx,hd,h1,c2⟩,ne,⟨oT,ws,hT,hdT,h3⟩⟩:=t;have sz3:3 < ws.size:=(Array.getElem?_eq_some_iff.mp h3).1;unfold setFlight;refine wpAny_bind (wpAny_field he hd h1 ?_);rw [if_pos (show(Value.ref T != Value.none)=true from by simp)];refine wpAny_setField hT hdT sz3 (h _ (fun b u n e=> ?_) ⟨⟨o,us, ?_,hc,hx,hd,h1,c2⟩,ne,⟨_,_,Heap.get?_update_self _ hT (Obj.isFreed_of_fields (Obj.data_mapFields hdT _)),Obj.data_mapFields hdT _, ?_⟩⟩)
 ·rw [Heap.get?_update_other _ _ (fun z=>n (by simp [z]))];exact e
 ·rw [Heap.get?_update_other _ _ ne];exact he
 ·simp [sz3]
end
def CXr(P:Program)(w:World):CXT:=fun outer H s E e s'=>∃a C dx T H',e= .ref a∧s'.os=s.os∧AllBare s'.gens∧Un (frs outer) [] H H' s.heap s'.heap∧HOk P w H' s'.heap∧
 Tr s'.heap a C dx .none T∧H' a=none∧H' T=none∧s.heap.objs.size≤a∧s.heap.objs.size≤T∧E (.ref C) dx H'
section
variable{X:Cx}{zd:List (Addr×Obj)}{σ:Sg}{H H':Hp}{s s':Shared}
theorem Inv.settle{ch:List Addr}{h2:Heap}(I:Inv X zd σ H s)(I':Inv X zd σ H' s')(n:∀b∈ch,s.heap.objs.size≤b∧H' b=none)(k:KeepX ch (frs X.stack) s'.heap h2):Inv X zd σ H' {s' with heap:=h2}:=by
 have trk:∀b u,H' b=some u→b∉ch∧b∉frs X.stack:=fun b u e=>⟨fun z=>(by rw [(n b z).2] at e;cases e),fun z=>(by rw [I'.stkFree b z] at e;cases e)⟩;refine I'.step (g':=s'.gens) (d':=s'.drawn) (t':=s'.toks) (ch:=ch) (fun b hb=> ?_) (fun b o h1 h2 h3 e _=>k.same b o h3 (fun z=> ?_) e) (fun b o _ _ h3 e _=>k.slot b o h3 e) (fun _ _ _ _ z=>z) (fun b o h3 e=> ?_) (fun _ _ z=>z) (fun _ _ _ z=>z) (fun b ps z=>⟨#[],by rw [z];simp⟩) (fun m hm=> ?_) (fun b u e=> ?_) I'.bare
 ·have lb:=(n b hb).1;refine⟨.inr (Nat.le_trans I.sz lb),fun z=> ?_,fun x c e z=> ?_,fun p hp z=> ?_⟩
  ·exact absurd (Nat.lt_of_lt_of_le I.lt lb) (by rw [z];exact Nat.lt_irrefl _)
  ·obtain⟨v,hv⟩:=I.cell x c e;exact absurd (Nat.lt_of_lt_of_le hv.lt lb) (by rw [z];exact Nat.lt_irrefl _)
  ·exact absurd (Nat.lt_of_lt_of_le (Heap.lt_size (I.pin p hp).1) lb) (by rw [z];exact Nat.lt_irrefl _)
 ·rcases List.mem_cons.mp (I'.stkSub b z) with z|z
  ·exact h1 z
  ·exact h2 z
 ·obtain⟨sl,q⟩:=k.slot b o h3 e;exact⟨_,q⟩
 ·obtain⟨o,es,ep,ho,r⟩:=hm;have nl:X.env.locals∉ch:=fun z=>absurd (Nat.lt_of_lt_of_le I.lt (n _ z).1) (Nat.lt_irrefl _);obtain⟨sl,q⟩:=k.slot _ o nl ho;exact⟨_,es,ep,q,r⟩
 ·refine(I'.hok b u e).stay (fun c v hc q=> ?_) (fun _ z=>z) fun _ _ z=>z;rcases hc with rfl|hc
  ·exact k.same c v (trk c u e).1 (trk c u e).2 q
  ·exact k.same c v (trk c _ hc).1 (trk c _ hc).2 q
theorem Inv.raised{E:XK}{e:Value}(I:Inv X zd σ H s)(c:CXr X.prog X.w X.stack H s E e s'):∃a C dx T H',e= .ref a∧Inv X zd σ H' s'∧Tr s'.heap a C dx .none T∧H' a=none∧H' T=none∧s.heap.objs.size≤a∧s.heap.objs.size≤T∧E (.ref C) dx H':=by
 obtain⟨a,C,dx,T,H',e1,os,br,un,hok,tr,n1,n2,z1,z2,q⟩:=c;exact⟨a,C,dx,T,H',e1,I.call' (ch:= []) os un hok br (fun b z=>absurd z (by simp)),tr,n1,n2,z1,z2,q⟩
end
section
variable{cm:Bool}{P:Program}{w:World}{K:Frag}{mg:Str→Option Value}{base:Heap}{N:List Str}{qual:Str}{scope:Scope}{f:Addr}{cd:Value}{A:Around}{outer:List Env}{s0:Shared}{H0:Hp}{E E':XK}
theorem cd_2{zd:List (Addr×Obj)}{σ:Sg}{s s':Shared}{e:Value}(I:Inv ({cxOf (CXr P w) P w K mg base N qual scope f cd A outer s0 H0 E with calm:=cm}:Cx) zd σ H s)
  (c:CXr P w ({cxOf (CXr P w) P w K mg base N qual scope f cd A outer s0 H0 E with calm:=cm}:Cx).stack H s E' e s') (i:∀cls dx H',E' cls dx H'→E cls dx H'):({cxOf (CXr P w) P w K mg base N qual scope f cd A outer s0 H0 E with calm:=cm}:Cx).xe e s':=by
 obtain⟨a,C,dx,T,H',rfl,I',tr,n1,n2,z1,z2,q⟩:=Inv.raised I c;show wpAny (model P w) _ (leaving _ _) _ _ s';unfold leaving;refine wpAny_bind (ax_0 I'.ok.frames I'.stack rfl tr fun h1 T2 z3 k1 t1=> ?_);refine s_8 t1 fun h2 k2 t2=> ?_;have zT2:H' T2=none:=I'.hok.fresh z3;have J:Inv ({cxOf (CXr P w) P w K mg base N qual scope f cd A outer s0 H0 E with calm:=cm}:Cx) zd σ H' {s' with heap:=h2}:=by
  refine Inv.settle (ch:= [a,T] ++ [T2]) I I' (fun b hb=> ?_) (k1.trans (KeepX.of_same k2));have:b=a∨b=T∨b=T2:=by simpa using hb
  rcases this with rfl|rfl|rfl
  ·exact⟨z1,n1⟩
  ·exact⟨z2,n2⟩
  ·exact⟨Nat.le_trans (Nat.le_trans (Nat.le_refl _) z1) (Nat.le_trans (Nat.le_of_lt (Heap.lt_size tr.ob.choose_spec.choose_spec.1)) z3),zT2⟩
 exact⟨a,C,dx,T2,H',rfl,J.os,J.bare,J.base,J.hok,t2,n1,zT2,Nat.le_trans I.sz z1,Nat.le_trans I'.sz z3,i _ _ _ q⟩
theorem bb_4{zd:List (Addr×Obj)}{σ:Sg}{H H':Hp}{s s':Shared}{a C:Addr}{dx:Option Addr}{o:Obj}{us:Array Value}(I:Inv ({cxOf (CXr P w) P w K mg base N qual scope f cd A outer s0 H0 E with calm:=cm}:Cx) zd σ H s)
  (I':Inv ({cxOf (CXr P w) P w K mg base N qual scope f cd A outer s0 H0 E with calm:=cm}:Cx) zd σ H' s') (he:s'.heap.get? a=some o) (hc:o.cls= .ref C) (hx:o.dict=dx) (hd:o.data= .fields us) (h1:us[1]? =some .none) (c2:us[2]? =some .none) (n1:H' a=none) (z1:s.heap.objs.size≤a) (q:E (.ref C) dx H'):
  ({cxOf (CXr P w) P w K mg base N qual scope f cd A outer s0 H0 E with calm:=cm}:Cx).xe (.ref a) s':=by
 show wpAny (model P w) _ (leaving _ _) _ _ s';unfold leaving;refine wpAny_bind (bq_6 I'.ok.frames I'.stack rfl he hc hx hd h1 c2 fun h1 T2 z3 k1 t1=> ?_);refine s_8 t1 fun h2 k2 t2=> ?_;have zT2:H' T2=none:=I'.hok.fresh z3;have J:Inv ({cxOf (CXr P w) P w K mg base N qual scope f cd A outer s0 H0 E with calm:=cm}:Cx) zd σ H' {s' with heap:=h2}:=by
  refine Inv.settle (ch:= [a] ++ [T2]) I I' (fun b hb=> ?_) (k1.trans (KeepX.of_same k2));have:b=a∨b=T2:=by simpa using hb
  rcases this with rfl|rfl
  ·exact⟨z1,n1⟩
  ·exact⟨Nat.le_trans z1 (Nat.le_trans (Nat.le_of_lt (Heap.lt_size he)) z3),zT2⟩
 exact⟨a,C,dx,T2,H',rfl,J.os,J.bare,J.base,J.hok,t2,n1,zT2,Nat.le_trans I.sz z1,Nat.le_trans I'.sz z3,q⟩
end
section
variable{prog:Program}{w:World}{A:Around}{E:Value→Shared→Prop}{h:Heap}{g:Array GenState}{d:Drawn}{t:Nat}{os:OsState}
variable{nm q:Str}{C N:Addr}{bs bm bmB:List Value}{ay:Bool}{sn:List Str}{sub:List Value}{ab:Bool}{col:Option Bool}{dd:Option Addr}{k0 k1 k2 k3 k5:Option Value}{B newId ah:String}
theorem cd_3(FB:ExcBaseFacts B newId ah bmB)(T:OwnTail h bmB bm){mN:Str→Option Value}{fI:Addr}{oI:Obj}{Q:PySem.Fin→Shared→Prop}
  (hC:h.get? C=some (excClassObj nm q C N bs bm ay sn sub ab col dd k0 k1 k2 k3 k5 newId)) (hn:h.Ns N mN) (hi:mN "__init__" =some (.ref fI)) (ho:h.get? fI=some oI) (hf:oI.cls= .type "function")
  (z:∀h' e,Heap.MadeExcOf h h' e (.ref C) us→h.objs.size≤e→wpAny (model prog w) A (call (.ref fI) (.ref e::us)) (fun r s'=>r= .none∧Q (.done (.ret (.ref e))) s') E ⟨h',g,d,t,os⟩) (hu:us.length≤sizeLine):
  wpAny (model prog w) A (Builtin.«type.__call__» ⟨.ref C::us, []⟩) Q E ⟨h,g,d,t,os⟩:=by
 wp_walk using wpAny_loadPart_at hC,wpAny_madeBy_exc hC
 refine codeAny_call_builtin_code (Code.quiet_builtin _ FB.quiet) (wpAny_check_new_subT FB T hC ?_);refine codeAny_exc_new_subT FB T hC ?_ hu;show wpAny _ _ _ _ _ _;generalize e1:({cls:= .type "tuple",data:= .seq us.toArray}:Obj)=o1;generalize e2:({cls:= .ref C,data:= .fields #[.ref h.objs.size, .none, .none, .none, .bool false, .none]}:Obj)=o2;have up:∀b o,h.get? b=some o→((h.push o1).push o2).get? b=some o:=fun b o e=>Heap.get?_push_of_some _ (Heap.get?_push_of_some _ e);have ge:((h.push o1).push o2).get? (h.objs.size + 1)=some o2:=by
  have:=Heap.get?_push_size (h.push o1) (o:=o2) (by rw [←e2];rfl)
  rwa [Heap.size_push] at this
 have gt:((h.push o1).push o2).get? h.objs.size=some o1:=Heap.get?_push_of_some _ (Heap.get?_push_size h (by rw [←e1];rfl));have hC1:=up _ _ hC;have hn1:((h.push o1).push o2).Ns N mN:=hn.keeps up;have cl:o2.cls= .ref C:=by rw [←e2]
 have hcC:List.contains (Value.ref C::bm) (.ref C)=true:=List.contains_iff_mem.mpr (.head _);unfold isInstance
 repeat (first|(with_reducible refine wpAny_loadPart_at ge ?_;rw [cl])|(with_reducible refine wpAny_isSubtype_exc hC1 ?_;rw [hcC])|wp_step)
 change wpAny _ _ (mroOf (.ref C) >>=fun l=>lookupAlong l _) _ _ _;refine wpAny_bind (wpAny_mroOf_exc hC1 ?_);rw [lookupAlong_cons];refine wpAny_bind (wpAny_classOwn_exc hC1 hn1 ?_);rw [hi];refine wpAny_pure (wpAny_holding (wpAny_bind ?_));unfold bindSpecial;refine wpAny_bind (wpAny_typeOf (T:= "function") ⟨_,up _ _ ho,hf⟩ ?_);rw [if_pos (by decide)];refine wpAny_pure (wpAny_bind (wpAny_mono (z _ (h.objs.size + 1) ⟨up,Heap.get?_none_of_le (Nat.le_succ _),h.objs.size,by rw [e2];exact ge,Heap.get?_none_of_le (Nat.le_refl _),by rw [e1];exact gt⟩ (Nat.le_succ _)) (fun r s' hr=> ?_) fun _ _ x=>x));obtain⟨rfl,hQ⟩:=hr
 wp_walk
 exact hQ
theorem ck_2(FB:ExcBaseFacts B newId ah bmB)(T:OwnTail h bmB bm){mN:Str→Option Value}{fI:Addr}{oI:Obj}{Q:Value→Shared→Prop}
  (hC:h.get? C=some (excClassObj nm q C N bs bm ay sn sub ab col dd k0 k1 k2 k3 k5 newId)) (hn:h.Ns N mN) (hi:mN "__init__" =some (.ref fI)) (ho:h.get? fI=some oI) (hf:oI.cls= .type "function")
  (z:∀h' e,Heap.MadeExcOf h h' e (.ref C) us→h.objs.size≤e→wpAny (model prog w) (A.under (.builtin "type.__call__" ⟨.ref C::us, []⟩)) (call (.ref fI) (.ref e::us)) (fun r s'=>r= .none∧Q (.ref e) s') E ⟨h',g,d,t,os⟩) (hu:us.length≤sizeLine):
  wpAny (model prog w) A (call (.ref C) us) Q E ⟨h,g,d,t,os⟩:=by
 have f1:=tc_lookup;have f2:=tc_bind (.ref C);have isT:Shared.TypeIs ⟨h,g,d,t,os⟩ (.ref C) "type" :=⟨_,hC,rfl⟩;refine wpAny_call (codeAny_of_tree (?_:wpAny _ _ (callAny (.ref C) _) _ _ _))
 wp_walk using wpAny_loadPart_at hC
 refine⟨rfl, ?_⟩;exact codeAny_call_builtin_at (Code.quiet_builtin _ (by decide +kernel)) entry_typeCall (wpAny_check_type_call_sub hC (cd_3 FB T hC hn hi ho hf (fun h' e hm hz=>z h' e hm hz) hu))
theorem ax_1{M:Model}{env:Env}{s:Shared}{x:Sem Value}{Q:Flow→Shared→Prop}(hb:bm.contains (.type "BaseException")=true)(hh:A.handled=none)
  (z:wpAny M A x (fun v s1=>∃e t dx,v= .ref e∧s1.heap.get? C=some (excClassObj nm q C N bs bm ay sn sub ab col dd k0 k1 k2 k3 k5 newId)∧
   s1.heap.get? e=some {cls:= .ref C,dict:=dx,data:= .fields #[.ref t, .none, .none, .none, .bool false, .none]}∧E (.ref e) s1) E s):wpAny M A (raiseStmt env (some x) none) Q E s:=by
 have hcB:(Value.ref C::bm).contains (.type "BaseException")=true:=by rw [List.contains_cons,hb,Bool.or_true]
 unfold raiseStmt;refine wpAny_bind (wpAny_mono z (fun v s1 z1=> ?_) fun _ _ y=>y);obtain⟨e,t,dx,rfl,hC,he,hE⟩:=z1;obtain⟨hp,g,d,tk,os⟩:=s1
 repeat (first|with_reducible refine wpAny_loadPart_at he ?_|with_reducible refine wpAny_loadPart_at hC ?_|(with_reducible refine wpAny_isSubtype_exc hC ?_;rw [hcB])|wp_step)
 exact wpAny_raiseNew_none hh hE
end
section
variable{X:Cx}{EX:EXS}{a b c:Expr}{f g h:FE}{pos:Pos}
def eVar(i:Nat):FE:=fun δ=>match δ[i]? with
 |some (some d)=> .ok (.sh d)
 |_=> .no
def eC(d:D):FE:=fun _=> .ok (.sh d)
theorem a_0(i:Nat){x:Str}(hN:X.N[i]? =some x:=by rfl)(hv:Vis X.env.scope x:=by first|exact Or.inl rfl|exact Or.inr (Or.inl rfl)|exact Or.inr (Or.inr rfl))(hd:(x ==("__debug__" :Str))=false:=by decide)
  (hcd:(x ==("__classdict__" :Str))=false:=by decide):ED X EX (.Name x pos) (eVar i):=
 PE.imp (j_7 hN hv hd hcd) fun σ H Q ⟨G,δ,g,s,o⟩=>by
  unfold eVar at o
  split at o
  ·rename_i d e;obtain⟨v,e1,r⟩:=s.get i d e;exact⟨v,e1,WP.use o g r⟩
  ·exact o.elim
theorem u_3{e:Expr}{d:D}(he:PE X e (tC v))(hd:∀G,Has X.K G v d):ED X EX e (eC d):=
 PE.imp he fun σ H Q ⟨G,δ,g,s,o⟩=>WP.use o g (hd G)
theorem a_2{i:Int}{j pos}:ED X EX (.Constant (.int i) j pos) (eC (.int i)):=u_3 dd_5 fun _=> .int i
theorem ak_3{b:Bool}{j pos}:ED X EX (.Constant (.bool b) j pos) (eC (.bl b)):=u_3 dl_5 fun _=> .bl b
theorem bb_5{j pos}:ED X EX (.Constant .none j pos) (eC .non):=u_3 dd_6 fun _=> .non
theorem q_2{x:Str}{j pos}:ED X EX (.Constant (.str x) j pos) (eC (.str x)):=u_3 dd_7 fun _=> .str x
theorem v_8{x:Str}{i:Int}{t:Tok}(hg:Gl X x)(hm:X.mg x=some (.int i t))(hd:(x ==("__debug__" :Str))=false:=by decide):ED X EX (.Name x pos) (eC (.int i)):=u_3 (an_0 (v:= .int i) hg hm ⟨t,rfl⟩ hd) fun _=> .int i
theorem bw_7{x:Str}{z:Str}{t:Tok}(hg:Gl X x)(hm:X.mg x=some (.str z t))(hd:(x ==("__debug__" :Str))=false:=by decide):ED X EX (.Name x pos) (eC (.str z)):=u_3 (an_0 (v:= .str z) hg hm ⟨t,rfl⟩ hd) fun _=> .str z
def rD(K:Frag)(r:D→D→R W):R2:=fun x y H Q=>∃(EX:EXT) (G:Hp) (a b:D),Same G H∧Has K G x a∧Has K G y b∧Out K EX G H (r a b) Q
abbrev OpD(X:Cx)(f:Value→Value→Sem Value)(r:D→D→R W):Prop:=OpR X f (rD X.K r)
def eOp(r:D→D→R W)(f g:FE):FE:=fun δ=>(f δ).bind fun a=>(g δ).bind fun b=>r a.d b.d
theorem two{r:D→D→R W}{σ:Sg}{Q:VK}(q:tD K EX (eOp r f g) σ H Q):tOp (rD K r) (tD K EX f) (tD K EX g) σ H Q:=by
 obtain⟨G,δ,g0,s0,o⟩:=q;exact tD.seq g0 s0 o fun w v G1 H1 _ st1 r1 o1=>tD.seq st1.gh (s0.mono st1.gg) o1 fun w2 v2 G2 H2 _ st2 r2 o2=>⟨_,G2,w.d,w2.d,st2.gh,r1.mono st2.gg,r2,o2⟩
theorem a_3{op:Operator}{r:D→D→R W}(ho:OpD X (binaryOp op) r)(ha:ED X EX a f)(hb:ED X EX b g):ED X EX (.BinOp a op b pos) (eOp r f g):=
 PE.imp (db_8 ho ha hb) fun _ _ _ q=>two q
theorem bb_6{op:CmpOp}{r:D→D→R W}(ho:OpD X (compareOp op) r)(ha:ED X EX a f)(hb:ED X EX b g)(hm:behindInMarks op b=false):ED X EX (.Compare a [op] [b] pos) (eOp r f g):=
 PE.imp (ct_2 ho ha hb hm) fun _ _ _ q=>two q
def boolD:D→R Bool
 | .bl b=> .ok b
 |_=> .no
def eTest(f:FE):FT:=fun δ=>(f δ).bind fun w=>boolD w.d
theorem cu_3{σ:Sg}{Q:Bool→Hp→Prop}(q:tDt K EX (eTest f) σ H Q):tD K EX f σ H fun x H'=>∃k,x= .bl k∧Q k H':=by
 obtain⟨G,δ,g0,s0,o⟩:=q;refine⟨G,δ,g0,s0, ?_⟩;unfold eTest at o;cases e:f δ with
 |ok w=>
  rw [e] at o;simp only [R.bind_ok] at o;refine WP.intro fun v G' H' st r=> ?_;revert r o;cases w.d with
  |bl k=>intro o r;cases r;exact⟨k,rfl,o G' H' st⟩
  |_=>intro o _;exact False.elim o
 |ex x=>rw [e] at o;exact o
 |no=>rw [e] at o;exact o
theorem d_8{op:CmpOp}{r:D→D→R W}(ho:OpD X (compareOp op) r)(ha:ED X EX a f)(hb:ED X EX b g)(hm:behindInMarks op b=false):TD X EX (.Compare a [op] [b] pos) (eTest (eOp r f g)):=
 PT.imp (bw_0 ho ha hb hm) fun σ H Q q=>two (cu_3 q)
def t_7(r r':D→D→R W)(f g h:FE):FE:=fun δ=>(f δ).bind fun a=>(g δ).bind fun b=>(r a.d b.d).bind fun z=>(boolD z.d).bind fun k=>
 if k=true then(h δ).bind fun c=>r' b.d c.d else .ok (.sh (.bl false))
theorem dn_3{r r':D→D→R W}{σ:Sg}{Q:VK}(q:tD K EX (t_7 r r' f g h) σ H Q):ci_9 (rD K r) (rD K r') (tD K EX f) (tD K EX g) (tD K EX h) σ H Q:=by
 obtain⟨G,δ,g0,s0,o⟩:=q;refine tD.seq g0 s0 o fun w v G1 H1 _ st1 r1 o1=>tD.seq st1.gh (s0.mono st1.gg) o1 fun w2 v2 G2 H2 _ st2 r2 o2=>⟨EX σ,G2,w.d,w2.d,st2.gh,r1.mono st2.gg,r2, ?_⟩;revert o2;cases r w.d w2.d with
 |ok z=>
  intro o2;refine WP.intro fun v3 G3 H3 st3 r3=> ?_;have o2:Out K (EX σ) G2 H2 ((boolD z.d).bind fun k=>if k=true then(h δ).bind fun c=>r' w2.d c.d else .ok (.sh (.bl false))) Q:=o2;revert r3 o2;cases z.d with
  |bl k=>
   intro r3 o2;cases r3;refine⟨k,rfl, ?_⟩;cases k with
   |true=>
    rw [if_pos rfl];have o3:Out K (EX σ) G2 H2 ((h δ).bind fun c=>r' w2.d c.d) Q:=o2;exact tD.seq st3.gh (s0.mono (st1.gg.trans (st2.gg.trans st3.gg))) (o3.mono st3) fun w4 v4 G4 H4 _ st4 r4 o4=>⟨_,G4,w2.d,w4.d,st4.gh,r2.mono (st3.gg.trans st4.gg),r4,o4⟩
   |false=>
    rw [if_neg Bool.false_ne_true];have o3:WP K G2 H2 (.sh (.bl false)) Q:=o2;exact(o3.mono st3).use st3.gh (.bl false)
  |_=>intro _ o2;exact False.elim o2
 |ex x=>exact fun o2=>o2
 |no=>exact fun o2=>o2
theorem bh_3{op op':CmpOp}{r r':D→D→R W}(ho:OpD X (compareOp op) r)(ho':OpD X (compareOp op') r')(ha:ED X EX a f)(hb:ED X EX b g)(hc:ED X EX c h)
  (hm:lastMarks [op,op'] [b,c]=false:=by with_unfolding_all rfl):ED X EX (.Compare a [op,op'] [b,c] pos) (t_7 r r' f g h):=
 PE.imp (cj_0 ho ho' ha hb hc hm) fun _ _ _ q=>dn_3 q
abbrev TW(X:Cx)(EX:EXS)(e:Expr)(f:FT):Prop:=PW X e (tDt X.K EX f)
variable{p q:FT}{rest:List Expr}
def tAndF(p q:FT):FT:=fun δ=>(p δ).bind fun b=>if b=true then q δ else .ok false
def tOrF(p q:FT):FT:=fun δ=>(p δ).bind fun b=>if b=true then .ok true else q δ
def tNotF(p:FT):FT:=fun δ=>(p δ).bind fun b=> .ok (!b)
theorem bb_7(ha:TD X EX a p):TW X EX (.BoolOp .And [a] pos) p:=bv_4 ha
theorem tDt.two{σ:Sg}{Q:Bool→Hp→Prop}{k:Bool→DE→R Bool}{P:Bool→Hp→Prop}(h:tDt K EX (fun δ=>(p δ).bind fun b=>k b δ) σ H Q)
  (i:∀b H',tDt K EX (k b) σ H' Q→P b H'):tDt K EX p σ H P:=by
 obtain⟨G,δ,g0,s0,o⟩:=h;refine⟨G,δ,g0,s0, ?_⟩;cases e:p δ with
 |ok b=>
  simp only [e,R.bind_ok] at o;refine fun G' H' st=>i b H' ⟨G',δ,st.gh,s0.mono st.gg, ?_⟩;cases e2:k b δ with
  |ok c=>rw [e2] at o;exact fun G2 H2 st2=>o G2 H2 (st.trans st2)
  |ex x=>rw [e2] at o;exact(EX σ).mono _ _ _ _ _ st o
  |no=>rw [e2] at o;exact o
 |ex x=>simp only [e,R.bind_ex] at o;exact o
 |no=>simp only [e,R.bind_no] at o
theorem tDt.now{σ:Sg}{Q:Bool→Hp→Prop}{c:Bool}(h:tDt K EX (fun _=> .ok c) σ H Q):Q c H:=by
 obtain⟨G,δ,g0,s0,o⟩:=h;exact o G H (Step.refl g0)
theorem bq_7(ha:TD X EX a p)(hb:TW X EX (.BoolOp .And (b::rest) pos) q):TW X EX (.BoolOp .And (a::b::rest) pos) (tAndF p q):=
 PW.imp (ci_0 ha hb) fun σ H Q h=>tDt.two (k:=fun b δ=>if b=true then q δ else .ok false) h fun b H' h'=>by
  cases b with
  |true=>rw [if_pos rfl];exact h'
  |false=>rw [if_neg Bool.false_ne_true];exact tDt.now h'
theorem td_w{e:Expr}(h:TW X EX e p):TD X EX e p:=h.pt
theorem ck_3(ha:TD X EX a p):TD X EX (.UnaryOp .Not a pos) (tNotF p):=
 PT.imp (ci_1 ha) fun σ H Q h=>tDt.two (k:=fun b _=> .ok (!b)) h fun b H' h'=>tDt.now h'
def eAnd(f g:FE):FE:=fun δ=>(f δ).bind fun a=>(boolD a.d).bind fun k=>if k=true then g δ else .ok (.sh (.bl false))
def eOr(f g:FE):FE:=fun δ=>(f δ).bind fun a=>(boolD a.d).bind fun k=>if k=true then .ok (.sh (.bl true)) else g δ
def eNot(f:FE):FE:=fun δ=>(f δ).bind fun a=>(boolD a.d).bind fun k=> .ok (.sh (.bl (!k)))
theorem ad_7{op}(h:ED X EX a f):ED X EX (.BoolOp op [a] pos) f:=dd_8 h
theorem tD.boolThen{σ:Sg}{Q:VK}{k:Bool→DE→R W}{P:Bool→Hp→Prop}(h:tD K EX (fun δ=>(f δ).bind fun a=>(boolD a.d).bind fun c=>k c δ) σ H Q)
  (i:∀c H',tD K EX (k c) σ H' Q→P c H'):tD K EX f σ H fun x H'=>∃c,x= .bl c∧P c H':=by
 obtain⟨G,δ,g0,s0,o⟩:=h;refine tD.seq g0 s0 o fun w v G1 H1 _ st1 r1 o1=> ?_;revert r1 o1;cases w.d with
 |bl c=>intro r1 o1;cases r1;exact⟨c,rfl,i c H1 ⟨G1,δ,st1.gh,s0.mono st1.gg,o1⟩⟩
 |_=>intro _ o1;exact False.elim o1
theorem tD.now{σ:Sg}{Q:VK}{d:D}(h:tD K EX (fun _=> .ok (.sh d)) σ H Q)(r:∀G,Has K G v d):Q v H:=by
 obtain⟨G,δ,g0,s0,o⟩:=h;exact WP.use o g0 (r G)
theorem x_9(ha:ED X EX a f)(hb:ED X EX (.BoolOp .And (b::rest) pos) g):ED X EX (.BoolOp .And (a::b::rest) pos) (eAnd f g):=
 PE.imp (dd_9 ha hb) fun σ H Q h=>tD.boolThen (k:=fun k δ=>if k=true then g δ else .ok (.sh (.bl false))) h fun c H' h'=>by
  cases c with
  |true=>rw [if_pos rfl];exact h'
  |false=>rw [if_neg Bool.false_ne_true];exact tD.now h' fun _=> .bl false
theorem ap_2(ha:ED X EX a f):ED X EX (.UnaryOp .Not a pos) (eNot f):=
 PE.imp (de_0 ha) fun σ H Q h=>tD.boolThen (k:=fun k _=> .ok (.sh (.bl (!k)))) h fun c H' h'=>tD.now h' fun _=> .bl (!c)
def eIf(p:FT)(f g:FE):FE:=fun δ=>(p δ).bind fun k=>if k=true then f δ else g δ
theorem ck_4(hc:TD X EX c p)(ha:ED X EX a f)(hb:ED X EX b g):ED X EX (.IfExp c a b pos) (eIf p f g):=
 PE.imp (ci_2 hc ha hb) fun σ H Q ⟨G,δ,g0,s0,o⟩=>tDt.seq g0 s0 o fun k G' H' _ st o'=>by
  cases k with
  |true=>rw [if_pos rfl];exact⟨G',δ,st.gh,s0.mono st.gg,o'⟩
  |false=>rw [if_neg Bool.false_ne_true];exact⟨G',δ,st.gh,s0.mono st.gg,o'⟩
def truthD:D→R Bool
 | .non=> .ok false
 | .bl b=> .ok b
 | .int i=> .ok (i != 0)
 | .str x=>if x.length≤16777216 then .ok ((x.length:Int) != 0) else .no
 | .lst ds=> .ok (!ds.isEmpty)
 | .tup ds=> .ok (!ds.isEmpty)
 |_=> .no
def eTruth(f:FE):FT:=fun δ=>(f δ).bind fun w=>truthD w.d
theorem bh_4{G:Hp}{vs:List V}{ds:List D}(r:HasL K G vs ds):(!ds.isEmpty)= !vs.isEmpty:=by cases r <;> rfl
theorem dg_0{G H:Hp}{d:D}{k:Bool}(g:Same G H)(r:Has K G v d)(e:truthD d= .ok k):TruV K v H k:=by
 cases r with
 |non=>cases e;rfl
 |bl b=>cases e;rfl
 |int i=>cases e;rfl
 |str x=>
  have e:(if x.length≤16777216 then R.ok ((x.length:Int) != 0) else .no)= .ok k:=e
  split at e
  ·rename_i hz;cases e;exact⟨by rw [sizeLine_eq];exact hz,rfl⟩
  ·cases e
 |lst h r=>cases e;exact .inl ⟨_,g.seq h,bh_4 r⟩
 |tup h r=>cases e;exact .inr (.inl ⟨_,Same.tupS g h,bh_4 r⟩)
 |exn0 _ _=>cases e
 |exn1 _ _ _ _ _=>cases e
 |dic _ _ _=>cases e
 |obj _ _ _ _=>cases e
theorem u_4(ha:ED X EX a f)(he:∀whole,isTrue a X.env whole=(do let v←whole;standAt a.pos;holding [v] (truthy v)):=by intro _;rfl):TD X EX a (eTruth f):=
 PT.imp (bh_0 ha he) fun σ H Q ⟨G,δ,g0,s0,o⟩=>by
  refine⟨G,δ,g0,s0, ?_⟩;unfold eTruth at o;cases e:f δ with
  |ok w=>
   rw [e] at o;simp only [R.bind_ok] at o;refine WP.intro fun v G' H' st r=> ?_;cases e2:truthD w.d with
   |ok k=>rw [e2] at o;exact⟨k,dg_0 st.gh r e2,o G' H' st⟩
   |ex x=>rw [e2] at o;exfalso;revert e2;cases w.d <;> simp only [truthD] <;> intro e2 <;> first|cases e2|(split at e2 <;> cases e2)
   |no=>rw [e2] at o;exact o.elim
  |ex x=>rw [e] at o;exact o
  |no=>rw [e] at o;exact o
variable{e:Expr}{es:List Expr}{fa:FA}
def aNil:FA:=fun _=> .ok []
def aCons(f:FE)(fa:FA):FA:=fun δ=>(f δ).bind fun w=>(fa δ).bind fun ds=> .ok (w.d::ds)
theorem a_6:AD X EX [] aNil:=PA.imp m_7 fun σ H Q ⟨G,δ,g0,s0,o⟩=>o [] G H (Step.refl g0) .nil
theorem a_1(ha:ED X EX e f)(hr:AD X EX es fa)(hs:starEach (e::es) X.env=(false,eval e X.env)::starEach es X.env:=by rfl):AD X EX (e::es) (aCons f fa):=
 PA.imp (f_6 ha hr hs) fun σ H Q ⟨G,δ,g0,s0,o⟩=>by
  refine⟨G,δ,g0,s0, ?_⟩;unfold aCons at o;cases e1:f δ with
  |ok w=>
   rw [e1] at o;simp only [R.bind_ok] at o;refine WP.intro fun v G' H' st r=>⟨G',δ,st.gh,s0.mono st.gg, ?_⟩;cases e2:fa δ with
   |ok ds=>rw [e2] at o;exact fun vs G2 H2 st2 r2=>o (v::vs) G2 H2 (st.trans st2) (.cons (r.mono st2.gg) r2)
   |ex x=>rw [e2] at o;exact(EX σ).mono _ _ _ _ _ st o
   |no=>rw [e2] at o;exact o
  |ex x=>rw [e1] at o;exact o
  |no=>rw [e1] at o;exact o
def eTup(fa:FA):FE:=fun δ=>(fa δ).bind fun ds=>if ds.length≤16777216 then .ok (.sh (.tup ds)) else .no
def eLst(fa:FA):FE:=fun δ=>(fa δ).bind fun ds=>if ds.length≤16777216 then .ok (.ow (.lst ds)) else .no
theorem ad_8{x1}(ha:AD X EX es fa):ED X EX (.Tuple es x1 pos) (eTup fa):=
 PE.imp (cj_4 ha) fun σ H Q ⟨G,δ,g0,s0,o⟩=>tDa.seq g0 s0 o fun ds vs G' H' _ st r o'=>by
  split at o'
  ·rename_i hz;refine⟨by rw [r.length,sizeLine_eq];exact hz,fun p hp=>o' (.ref p) _ _ (Step.new st.gh hp _) (.tup (SqT.of a_9) (r.mono (k_5 (st.gh.free hp) _)))⟩
  ·exact o'.elim
theorem i_9(ha:AD X EX es fa):ED X EX (.List es pos) (eLst fa):=
 PE.imp (bq_4 ha) fun σ H Q ⟨G,δ,g0,s0,o⟩=>tDa.seq g0 s0 o fun ds vs G' H' _ st r o'=>by
  split at o'
  ·rename_i hz;refine⟨by rw [r.length,sizeLine_eq];exact hz,fun p hp=>v_7 o' st.gh r p hp⟩
  ·exact o'.elim
def rDc(K:Frag)(fn:List D→R W):List V→Hp→VK→Prop:=fun vs H Q=>∃(EX:EXT) (G:Hp) (ds:List D),Same G H∧HasL K G vs ds∧Out K EX G H (fn ds) Q
abbrev ac_3(X:Cx)(v:Value)(fn:List D→R W):Prop:=CallR X v (rDc X.K fn)
def eCall(fn:List D→R W)(fa:FA):FE:=fun δ=>(fa δ).bind fn
theorem bw_8{fn:List D→R W}{σ:Sg}{Q:VK}(q:tD K EX (eCall fn fa) σ H Q):tCB (rDc K fn) (tDa K EX fa) σ H Q:=by
 obtain⟨G,δ,g0,s0,o⟩:=q;exact tDa.seq g0 s0 o fun ds vs G' H' _ st r o'=>⟨_,G',ds,st.gh,r,o'⟩
variable{x:Str}{pp:Pos}{id T:String}{fn:List D→R W}
theorem d_1(hc:ac_3 X (.builtin id) fn)(hg:Gl X x)(hm:X.mg x=none)(hv:bootBuiltins x=some (.builtin id))(ha:AD X EX (e::es) fa)(hn:x≠ "__name__" :=by decide)(hdb:(x ==("__debug__" :Str))=false:=by decide)
  (he:starEach (e::es) X.env=(false,eval e X.env)::starEach es X.env:=by rfl) (hpl:(backTo pos (starEach es X.env)).any (·.1)=false:=by rfl):ED X EX (.Call (.Name x pp) (e::es) [] pos) (eCall fn fa):=
 PE.imp (x_8 hc hg hm hv ha hn hdb he hpl) fun _ _ _ q=>bw_8 q
theorem ax_2(hc:ac_3 X (.type T) fn)(hg:Gl X x)(hm:X.mg x=none)(hv:bootBuiltins x=some (.type T))(ha:AD X EX (e::es) fa)(hn:x≠ "__name__" :=by decide)(hdb:(x ==("__debug__" :Str))=false:=by decide)
  (he:starEach (e::es) X.env=(false,eval e X.env)::starEach es X.env:=by rfl) (hpl:(backTo pos (starEach es X.env)).any (·.1)=false:=by rfl):ED X EX (.Call (.Name x pp) (e::es) [] pos) (eCall fn fa):=
 PE.imp (cc_7 hc hg hm hv ha hn hdb he hpl) fun _ _ _ q=>bw_8 q
def ixD:D→D→R W
 | .lst ds, .int i=>match atI ds i with|some d=> .ok (.sh d)|none=> .no
 | .tup ds, .int i=>match atI ds i with|some d=> .ok (.sh d)|none=> .no
 | .str z, .int i=>if z.length≤16777216 then(match atI z.cps.toList i with|some c=> .ok (.sh (.str ⟨#[c]⟩))|none=> .no) else .no
 |_,_=> .no
theorem HasL.atI{G:Hp}{vs:List V}{ds:List D}{i:Int}{d:D}(r:HasL K G vs ds)(h:L2.atI ds i=some d):∃v,L2.atI vs i=some v∧Has K G v d:=by
 unfold L2.atI at h⊢;rw [r.length];cases e:ixN ds.length i with
 |none=>rw [e] at h;cases h
 |some j=>rw [e] at h;exact r.get h
theorem ix_d:IxR X (rD X.K ixD):=by
 intro value slice zd s σ H x y v u Q I rx ry h hs;obtain⟨EX,G,a,b,g,ra,rb,o⟩:=h;cases rb with
 |int i=>
  cases ra with
  |lst h r=>
   simp only [ixD] at o
   split at o
   ·rename_i d e;obtain⟨v,e1,r1⟩:=HasL.atI r e;exact ba_9 value slice zd s σ H _ _ _ _ Q I rx ry ⟨_,_,i,v,rfl,rfl,g.seq h,e1,WP.use o g r1⟩ hs
   ·exact o.elim
  |tup h r=>
   simp only [ixD] at o
   split at o
   ·rename_i d e;obtain⟨v,e1,r1⟩:=HasL.atI r e;exact df_2 value slice zd s σ H _ _ _ _ Q I rx ry ⟨_,_,i,v,rfl,rfl,Same.tupS g h,e1,WP.use o g r1⟩ hs
   ·exact o.elim
  |str z=>
   simp only [ixD] at o
   split at o
   ·rename_i hz
    split at o
    ·rename_i c e;exact df_3 value slice zd s σ H _ _ _ _ Q I rx ry ⟨z,i,c,rfl,rfl,by rw [sizeLine_eq];exact hz,e,WP.use o g (.str _)⟩ hs
    ·exact o.elim
   ·exact o.elim
  |_=>exact False.elim o
 |_=>cases ra <;> exact False.elim o
theorem f_3(ha:ED X EX a f)(hb:ED X EX b g)(hs:bw_3 b:=by intro _ _;rfl):ED X EX (.Subscript a b pos) (eOp ixD f g):=
 PE.imp (dn_2 ix_d ha hb hs) fun _ _ _ q=>two q
end
end L3
namespace L2
open PySem PySem.Spec PyProof.Rows
section
variable{κ:Type} [DecidableEq κ]
def j_9(kvs:List (κ×V))(k:κ):Option V:=(kvs.find? fun kv=>decide (kv.1=k)).map (·.2)
def q_3(kvs:List (κ×V))(k:κ)(v:V):List (κ×V):=
 if(kvs.any fun kv=>decide (kv.1=k))=true then kvs.map (fun kv=>if kv.1=k then(kv.1,v) else kv) else kvs ++ [(k,v)]
def p_5(kvs:List (κ×V))(k:κ):List (κ×V):=kvs.filter fun kv=>decide (kv.1≠k)
theorem j_0{p:κ×V}{r:List (κ×V)}{k:κ}(e:p.1=k):j_9 (p::r) k=some p.2:=by simp [j_9,List.find?_cons,e]
theorem h_8{p:κ×V}{r:List (κ×V)}{k:κ}(e:¬p.1=k):j_9 (p::r) k=j_9 r k:=by simp [j_9,List.find?_cons,e]
theorem y_0(k:κ):∀kvs:List (κ×V),(kvs.any fun kv=>decide (kv.1=k))=(j_9 kvs k).isSome
 | []=>rfl
 |p::r=>by
  rw [List.any_cons]
  by_cases e:p.1=k
  ·simp only [j_0 e,decide_eq_true e,Bool.true_or,Option.isSome_some]
  ·rw [h_8 e,decide_eq_false e,Bool.false_or];exact y_0 k r
theorem bh_5(k j:κ)(y:V):∀kvs:List (κ×V),j_9 (kvs.map fun kv=>if kv.1=k then(kv.1,y) else kv) j=(j_9 kvs j).map fun x=>if j=k then y else x
 | []=>rfl
 |p::r=>by
  have ih:=bh_5 k j y r;rw [List.map_cons]
  by_cases h:p.1=k
  ·rw [if_pos h]
   by_cases e:p.1=j
   ·rw [j_0 (p:=(p.1,y)) e,j_0 e,Option.map_some,if_pos (e.symm.trans h)]
   ·rw [h_8 (p:=(p.1,y)) e,h_8 e,ih]
  ·rw [if_neg h]
   by_cases e:p.1=j
   ·rw [j_0 (p:=p) e,j_0 e,Option.map_some,if_neg (fun z=>h (e.trans z))]
   ·rw [h_8 (p:=p) e,h_8 e,ih]
theorem ax_3(k j:κ)(y:V):∀kvs:List (κ×V),j_9 kvs k=none→j_9 (kvs ++ [(k,y)]) j=if j=k then some y else j_9 kvs j
 | [],_=>by
  by_cases e:k=j
  ·rw [if_pos e.symm];exact j_0 (p:=(k,y)) e
  ·rw [if_neg (fun z=>e z.symm)];exact h_8 (p:=(k,y)) e
 |p::r,hn=>by
  rw [List.cons_append];have hk:¬p.1=k:=fun z=>by rw [j_0 z] at hn;cases hn
  rw [h_8 hk] at hn;have ih:=ax_3 k j y r hn
  by_cases e:p.1=j
  ·rw [j_0 e,j_0 e,if_neg (fun z=>hk (e.trans z))]
  ·rw [h_8 e,h_8 e,ih]
theorem ck_5(kvs:List (κ×V))(k j:κ)(y:V):j_9 (q_3 kvs k y) j=if j=k then some y else j_9 kvs j:=by
 unfold q_3
 by_cases a:(kvs.any fun kv=>decide (kv.1=k))=true
 ·rw [if_pos a,bh_5];rw [y_0] at a
  by_cases e:j=k
  ·obtain⟨x,hx⟩:=Option.isSome_iff_exists.mp a;rw [if_pos e,e,hx,Option.map_some,if_pos rfl]
  ·rw [if_neg e];cases j_9 kvs j with
   |none=>rfl
   |some x=>rw [Option.map_some,if_neg e]
 ·rw [if_neg a];refine ax_3 k j y kvs ?_;rw [y_0] at a;cases q:j_9 kvs k with
  |none=>rfl
  |some x=>rw [q] at a;exact(a rfl).elim
theorem s_9(kvs:List (κ×V))(k:κ)(v:V):(q_3 kvs k v).length≤kvs.length + 1:=by
 unfold q_3
 split
 ·rw [List.length_map];omega
 ·rw [List.length_append,List.length_cons,List.length_nil];omega
theorem RelO.isSome_eq{o:Option V}{u:Option Value}(r:RelO o u):o.isSome=u.isSome:=by
 cases o with
 |none=>cases u with
  |none=>rfl
  |some _=>exact(show False from r).elim
 |some _=>cases u with
  |none=>exact(show False from r).elim
  |some _=>rfl
theorem RelO.getD{o:Option V}{u:Option Value}{d:V}{d':Value}(r:RelO o u)(rd:RelV d d'):RelV (o.getD d) (u.getD d'):=by
 cases o with
 |none=>cases u with
  |none=>exact rd
  |some _=>exact(show False from r).elim
 |some _=>cases u with
  |none=>exact(show False from r).elim
  |some _=>exact r
theorem KV.val{kvs:List (κ×V)}{vs:List (κ×Value)}(r:KV kvs vs)(k:κ):RelO (j_9 kvs k) (valueAt vs k):=by
 unfold KV at r
 induction r with
 |nil=>exact True.intro
 | @cons p q ps qs h t ih=>
  obtain⟨h1,h2⟩:=h
  by_cases e:p.1=k
  ·have e':q.1=k:=h1.symm.trans e;have b:valueAt (q::qs) k=some q.2:=by simp [valueAt,List.find?_cons,e']
   rw [j_0 e,b];exact h2
  ·have e':¬q.1=k:=fun z=>e (h1.trans z);have b:valueAt (q::qs) k=valueAt qs k:=by simp [valueAt,List.find?_cons,e']
   rw [h_8 e,b];exact ih
theorem KV.any{kvs:List (κ×V)}{vs:List (κ×Value)}(r:KV kvs vs)(k:κ):(kvs.any fun kv=>decide (kv.1=k))=vs.any fun kv=>decide (kv.1=k):=by
 unfold KV at r
 induction r with
 |nil=>rfl
 |cons h t ih=>rw [List.any_cons,List.any_cons,ih,h.1]
theorem KV.repl{kvs:List (κ×V)}{vs:List (κ×Value)}(r:KV kvs vs)(k:κ){y:V}{u:Value}(ry:RelV y u):
  KV (kvs.map fun kv=>if kv.1=k then(kv.1,y) else kv) (vs.map fun kv=>if kv.1=k then(kv.1,u) else kv):=by
 unfold KV at r⊢
 induction r with
 |nil=>exact .nil
 | @cons p q ps qs h t ih=>
  rw [List.map_cons,List.map_cons];refine .cons ?_ ih;obtain⟨h1,h2⟩:=h
  by_cases e:p.1=k
  ·rw [if_pos e,if_pos (h1.symm.trans e)];exact⟨h1,ry⟩
  ·rw [if_neg e,if_neg (fun z=>e (h1.trans z))];exact⟨h1,h2⟩
theorem KV.put{kvs:List (κ×V)}{vs:List (κ×Value)}(r:KV kvs vs)(k:κ){y:V}{u:Value}(ry:RelV y u):KV (q_3 kvs k y) (stored vs k u):=by
 unfold q_3 stored;rw [r.any k]
 by_cases e:(vs.any fun kv=>decide (kv.1=k))=true
 ·rw [if_pos e,if_pos e];exact r.repl k ry
 ·rw [if_neg e,if_neg e];exact Paired.snoc r ⟨rfl,ry⟩
theorem KV.drop{kvs:List (κ×V)}{vs:List (κ×Value)}(r:KV kvs vs)(k:κ):KV (p_5 kvs k) (without vs k):=by
 unfold KV at r⊢;unfold p_5 without
 induction r with
 |nil=>exact .nil
 | @cons p q ps qs h t ih=>
  obtain⟨h1,h2⟩:=h;rw [List.filter_cons,List.filter_cons]
  by_cases e:p.1=k
  ·have a:¬decide (p.1≠k)=true:=by simp [e]
   have b:¬decide (q.1≠k)=true:=by simp [h1.symm.trans e]
   rw [if_neg a,if_neg b];exact ih
  ·have e':¬q.1=k:=fun z=>e (h1.trans z);have a:decide (p.1≠k)=true:=by simp [e]
   have b:decide (q.1≠k)=true:=by simp [e']
   rw [if_pos a,if_pos b];exact .cons ⟨h1,h2⟩ ih
theorem KV.keys{kvs:List (κ×V)}{vs:List (κ×Value)}(r:KV kvs vs):kvs.map (·.1)=vs.map (·.1):=by
 unfold KV at r
 induction r with
 |nil=>rfl
 |cons h t ih=>rw [List.map_cons,List.map_cons,ih,h.1]
theorem KV.length{kvs:List (κ×V)}{vs:List (κ×Value)}(r:KV kvs vs):kvs.length=vs.length:=Paired.length r
theorem ck_6(kvs:List (κ×V))(k:κ):(p_5 kvs k).length≤kvs.length:=List.length_filter_le _ _
end
theorem af_3{P:Program}{w:World}{k:Key}{u:Value}(r:RelV (kV k) u):(e_1 P w).is k u=true:=by
 cases k with
 |inl i=>obtain⟨t,e⟩:=(show∃t,u=Value.int i t from r);subst e;exact bg_7 P w i t
 |inr x=>obtain⟨t,e⟩:=(show∃t,u=Value.str x t from r);subst e;exact bg_8 P w x t
theorem ax_4{P:Program}{w:World}:∀{ks:List Key} {us:List Value},Vals (ks.map kV) us→ItemsAre (e_1 P w) ks us
 | [],_,r=>by rw [List.map_nil] at r;cases r;exact .nil
 |k::ks,_,r=>by
  rw [List.map_cons] at r;cases r with
  |cons h t=>exact .cons (af_3 h) (ax_4 t)
abbrev KT(H:Hp):List (List Key×V)→List (List Key×Addr×Value)→Prop:=Paired fun p q=>p.1=q.1∧H q.2.1=some (.tup (p.1.map kV))∧RelV p.2 q.2.2
theorem KT.val{kvs:List (List Key×V)}{xs:List (List Key×Addr×Value)}(r:KT H kvs xs)(k:List Key):RelO (j_9 kvs k) ((atKey xs k).map (·.2)):=by
 induction r with
 |nil=>exact True.intro
 | @cons p q ps qs h t ih=>
  obtain⟨h1,_,h2⟩:=h
  by_cases e:p.1=k
  ·have e':q.1=k:=h1.symm.trans e;have b:atKey (q::qs) k=some q.2:=by simp [atKey,List.find?_cons,e']
   rw [j_0 e,b];exact h2
  ·have e':¬q.1=k:=fun z=>e (h1.trans z);have b:atKey (q::qs) k=atKey qs k:=by simp [atKey,List.find?_cons,e']
   rw [h_8 e,b];exact ih
theorem KT.repl{kvs:List (List Key×V)}{xs:List (List Key×Addr×Value)}(r:KT H kvs xs)(k:List Key){y:V}{u:Value}(ry:RelV y u):
  KT H (kvs.map fun kv=>if kv.1=k then(kv.1,y) else kv) (xs.map (putAt k u)):=by
 induction r with
 |nil=>exact .nil
 | @cons p q ps qs h t ih=>
  rw [List.map_cons,List.map_cons];refine .cons ?_ ih;obtain⟨h1,h2,h3⟩:=h;unfold putAt
  by_cases e:p.1=k
  ·rw [if_pos e,if_pos (h1.symm.trans e)];exact⟨h1,h2,ry⟩
  ·rw [if_neg e,if_neg (fun z=>e (h1.trans z))];exact⟨h1,h2,h3⟩
theorem KT.put{kvs:List (List Key×V)}{xs:List (List Key×Addr×Value)}(r:KT H kvs xs)(k:List Key){b:Addr}{y:V}{u:Value}(hb:H b=some (.tup (k.map kV)))(ry:RelV y u):
  KT H (q_3 kvs k y) (storedH xs k b u):=by
 have e:(kvs.any fun kv=>decide (kv.1=k))=(atKey xs k).isSome:=by
  rw [y_0,(r.val k).isSome_eq,Option.isSome_map]
 unfold q_3 storedH;rw [e]
 by_cases q:(atKey xs k).isSome=true
 ·rw [if_pos q,if_pos q];exact r.repl k ry
 ·rw [if_neg q,if_neg q];exact Paired.snoc r ⟨rfl,hb,ry⟩
theorem KT.keeps{H H':Hp}{kvs:List (List Key×V)}{xs:List (List Key×Addr×Value)}(r:KT H kvs xs)(ht:∀b ys,H b=some (.tup ys)→H' b=some (.tup ys)):KT H' kvs xs:=
 Paired.mapP r fun _ _ z=>⟨z.1,ht _ _ z.2.1,z.2.2⟩
section
variable{P:Program}{w:World}{H:Hp}{h:Heap}{a:Addr}
theorem dc_0{u:HO}(ok:HOk P w H h)(e:Rd H a u):ObjOk P w H h a u:=e.ok ok
theorem t_0{kvs:List (Key×V)}(ok:HOk P w H h)(e:Rd H a (.dK kvs)):kvs.length≤sizeLine∧(a ==sysModules)=false∧∃vs,KV kvs vs∧h.DictOf (e_1 P w) a vs:=
 show ObjOk P w H h a (.dK kvs) from dc_0 ok e
theorem bw_9{kvs:List (Key×V)}(ok:HOk P w H h)(e:H a=some (.dK kvs)):kvs.length≤sizeLine∧(a ==sysModules)=false∧∃vs,KV kvs vs∧h.DictOf (e_1 P w) a vs:=t_0 ok (.inl e)
theorem ai_0{ks:List Key}(ok:HOk P w H h)(e:H a=some (.tup (ks.map kV))):(tupleKind (e_1 P w)).is h ks a:=by
 obtain⟨_,its,r,o,h1,h2,n,h3⟩:=(show ObjOk P w H h a (.tup (ks.map kV)) from ok a _ e);exact⟨o,its.toArray,n,h1,h2,h3,by simpa using ax_4 r⟩
theorem ap_3{kvs:List (List Key×V)}(ok:HOk P w H h)(e:Rd H a (.dT kvs)):kvs.length≤sizeLine∧(a ==sysModules)=false∧
  ∃xs,KT H kvs xs∧h.DictOfH (tupleKind (e_1 P w)) a xs:=by
 obtain⟨z,y,xs,r,o,es,ep,h1,h2,h3,h4,h5⟩:=(show ObjOk P w H h a (.dT kvs) from dc_0 ok e);refine⟨z,y,xs,r,o,es,ep,h1,h2,h3,h4,fun x hx=> ?_,h5⟩;have all:∀{l:List (List Key×V)} {m:List (List Key×Addr×Value)},KT H l m→∀x∈m,(tupleKind (e_1 P w)).is h x.1 x.2.1:=by
  intro l m q
  induction q with
  |nil=>intro x hx;exact nomatch hx
  | @cons p q ps qs hq t ih=>
   intro x hx;rcases List.mem_cons.mp hx with e|hx
   ·subst e;exact ai_0 ok (by rw [←hq.1];exact hq.2.1)
   ·exact ih x hx
 exact all r x hx
theorem dn_4{kvs:List (List Key×V)}(ok:HOk P w H h)(e:H a=some (.dT kvs)):kvs.length≤sizeLine∧(a ==sysModules)=false∧
  ∃xs,KT H kvs xs∧h.DictOfH (tupleKind (e_1 P w)) a xs:=ap_3 ok (.inl e)
end
def DGet(H:Hp)(a:Addr)(y:V)(r:Option V):Prop:=
 (∃kvs k,Rd H a (.dK kvs)∧y=kV k∧r=j_9 kvs k)∨∃kvs k b,Rd H a (.dT kvs)∧y= .ref b∧H b=some (.tup (k.map kV))∧r=j_9 kvs k
def DPut(H:Hp)(a:Addr)(y v:V)(H':Hp):Prop:=
 (∃kvs k,H a=some (.dK kvs)∧y=kV k∧kvs.length < sizeLine∧H'=upd H a (.dK (q_3 kvs k v)))∨
 ∃kvs k b,H a=some (.dT kvs)∧y= .ref b∧H b=some (.tup (k.map kV))∧kvs.length < sizeLine∧H'=upd H a (.dT (q_3 kvs k v))
theorem DGet.t{a b:Addr}{kvs:List (List Key×V)}{k:List Key}(e:H a=some (.dT kvs))(eb:H b=some (.tup (k.map kV))):DGet H a (.ref b) (j_9 kvs k):= .inr ⟨kvs,k,b, .inl e,rfl,eb,rfl⟩
theorem DPut.k{a:Addr}{kvs:List (Key×V)}{k:Key}(e:H a=some (.dK kvs))(hl:kvs.length < sizeLine):DPut H a (kV k) v (upd H a (.dK (q_3 kvs k v))):= .inl ⟨kvs,k,e,rfl,hl,rfl⟩
theorem DPut.t{a b:Addr}{kvs:List (List Key×V)}{k:List Key}(e:H a=some (.dT kvs))(eb:H b=some (.tup (k.map kV)))(hl:kvs.length < sizeLine):
  DPut H a (.ref b) v (upd H a (.dT (q_3 kvs k v))):= .inr ⟨kvs,k,b,e,rfl,eb,hl,rfl⟩
section
variable{X:Cx}{zd:List (Addr×Obj)}{σ:St}{H:Hp}{s:Shared}{a:Addr}{y v:V}{u r:Value}{o:Option V}{A:Around}{E:Value→Shared→Prop}
theorem Inv.big(I:Inv X zd σ H s):sysModules < s.heap.objs.size:=by
 have h:mainGlobals < s.heap.objs.size:=(I.mod.glob.keeps I.bk).lt;exact Nat.lt_trans (by decide) h
theorem cd_4{Q:Value→Shared→Prop}(hu:A.units + 1 < cLine)(I:Inv X zd σ H s)(g:DGet H a y (some v))(ry:RelV y u)(h:∀w' s',Inv X zd σ H s'→RelV v w'→Q w' s'):
  wpAny (model X.prog X.w) A (getItem (.ref a) u) Q E s:=by
 rcases g with⟨kvs,k,e,ey,l⟩|⟨kvs,k,b,e,ey,eb,l⟩
 ·subst ey;obtain⟨z,hd,vs,rel,dd⟩:=t_0 I.hok e;obtain⟨w',hw,rw'⟩:=RelO.some_of (v:=v) (o:=valueAt vs k) (by rw [l];exact rel.val k);exact wpAny_getItem_of (af_3 ry) dd.mapOf hw (h w' _ (I.tok _) rw')
 ·subst ey;cases(show u=Value.ref b from ry);obtain⟨z,hd,xs,rel,dd⟩:=ap_3 I.hok e;obtain⟨w',hw,rw'⟩:=RelO.some_of (v:=v) (o:=(atKey xs k).map (·.2)) (by rw [l];exact rel.val k);obtain⟨p,hp,hp2⟩:=Option.map_eq_some_iff.mp hw;refine wpAny_getItem_heap (tupleKind_room_in1 hu) (ai_0 I.hok eb) dd hp ?_;rw [hp2];exact h w' _ (I.tok _) rw'
theorem d_in{Q:Value→Shared→Prop}(hu:A.units + 1 < cLine)(I:Inv X zd σ H s)(g:DGet H a y o)(ry:RelV y u)(h:∀s',Inv X zd σ H s'→Q (.bool o.isSome) s'):
  wpAny (model X.prog X.w) A (compareOp .In u (.ref a)) Q E s:=by
 rcases g with⟨kvs,k,e,ey,l⟩|⟨kvs,k,b,e,ey,eb,l⟩
 ·subst ey;obtain⟨z,hd,vs,rel,dd⟩:=t_0 I.hok e;refine wpAny_in_of (af_3 ry) hd dd.mapOf ?_;rw [←(rel.val k).isSome_eq,←l];exact h _ (I.tok _)
 ·subst ey;cases(show u=Value.ref b from ry);obtain⟨z,hd,xs,rel,dd⟩:=ap_3 I.hok e;refine wpAny_in_heap (tupleKind_room_in1 hu) (ai_0 I.hok eb) hd dd ?_;have q:=(rel.val k).isSome_eq;rw [Option.isSome_map] at q;rw [←q,←l];exact h _ (I.tok _)
theorem cu_4{Q:Value→Shared→Prop}(hu:A.units + 1 < cLine)(I:Inv X zd σ H s)(g:DGet H a y o)(ry:RelV y u)(h:∀s',Inv X zd σ H s'→Q (.bool (!o.isSome)) s'):
  wpAny (model X.prog X.w) A (compareOp .NotIn u (.ref a)) Q E s:=by
 rcases g with⟨kvs,k,e,ey,l⟩|⟨kvs,k,b,e,ey,eb,l⟩
 ·subst ey;obtain⟨z,hd,vs,rel,dd⟩:=t_0 I.hok e;refine wpAny_notIn_of (af_3 ry) hd dd.mapOf ?_;rw [←(rel.val k).isSome_eq,←l];exact h _ (I.tok _)
 ·subst ey;cases(show u=Value.ref b from ry);obtain⟨z,hd,xs,rel,dd⟩:=ap_3 I.hok e;refine wpAny_notIn_heap (tupleKind_room_in1 hu) (ai_0 I.hok eb) hd dd ?_;have q:=(rel.val k).isSome_eq;rw [Option.isSome_map] at q;rw [←q,←l];exact h _ (I.tok _)
theorem af_4{h':Heap}{t':Nat}{ob:HO}(I:Inv X zd σ H s)(mu:Mut (H a))(hs:Heap.SameBut a s.heap h')(he:∃q,h'.get? a=some q)(new:ObjOk X.prog X.w (upd H a ob) h' a ob):
  Inv X zd σ (upd H a ob) {s with heap:=h',toks:=t'}:=
 I.write (x:=a) (e:=a) mu (.inl rfl) (fun b q hb z=>(hs.2 b hb).trans z) he new
theorem bb_8{P:Program}{w:World}{H':Hp}{h':Heap}{kvs:List (Key×V)}{vs:List (Key×Value)}(z:kvs.length≤sizeLine)(hd:(a ==sysModules)=false)(rel:KV kvs vs)(dd:h'.DictOf (e_1 P w) a vs):
  ObjOk P w H' h' a (.dK kvs):=⟨z,hd,vs,rel,dd⟩
theorem cd_5{H':Hp}{Q:Unit→Shared→Prop}(hu:A.units + 1 < cLine)(I:Inv X zd σ H s)(g:DPut H a y v H')(ry:RelV y u)(rv:RelV v r)(h:∀s',Inv X zd σ H' s'→Q () s'):
  wpAny (model X.prog X.w) A (setItem (.ref a) u r) Q E s:=by
 rcases g with⟨kvs,k,e,ey,l,eH⟩|⟨kvs,k,b,e,ey,eb,l,eH⟩
 ·subst ey eH;obtain⟨z,hd,vs,rel,dd⟩:=bw_9 I.hok e;have hz:vs.length≤sizeLine:=by rw [←rel.length];exact z
  have hl:(q_3 kvs k v).length≤sizeLine:=by have:=s_9 kvs k v;omega
  refine wpAny_setItem_pairs (hsz:=hz) (af_3 ry) dd fun h' dd' hs=>h _ ?_;have he:∃q,h'.get? a=some q:=let⟨q,_,_,hq,_⟩:=dd';⟨q,hq⟩;exact af_4 I (by rw [e];exact True.intro) hs he (bb_8 hl hd (rel.put k rv) dd')
 ·subst ey eH;cases(show u=Value.ref b from ry);obtain⟨z,hd,xs,rel,dd⟩:=dn_4 I.hok e;have hz:xs.length≤sizeLine:=by rw [←Paired.length rel];exact z
  have hl:(q_3 kvs k v).length≤sizeLine:=by have:=s_9 kvs k v;omega
  refine wpAny_setItem_heap (hsz:=hz) (tupleKind_room_in1 hu) (ai_0 I.hok eb) dd fun h' dd' hs=>h _ ?_;obtain⟨q,es,ep,hq,h2,h3,h4,_,h5⟩:=dd';refine af_4 I (by rw [e];exact True.intro) hs ⟨q,hq⟩ ⟨hl,hd,_,(rel.put k eb rv).keeps fun c ys ec=> ?_,q,es,ep,hq,h2,h3,h4,h5⟩;rw [a_5 (dl_4 ec e (fun z=>nomatch z))];exact ec
end
section
variable{X:Cx}{zd:List (Addr×Obj)}{σ:St}{H:Hp}{s:Shared}{a:Addr}{kvs:List (Key×V)}{k:Key}{u:Value}{A:Around}{E:Value→Shared→Prop}
theorem dn_5{more:List Value}{Q:Value→Shared→Prop}(I:Inv X zd σ H s)(e:H a=some (.dK kvs))(ry:RelV (kV k) u)(l:j_9 kvs k=some v)(hm:more= []∨∃x,more= [x])
  (h:∀w' s',Inv X zd σ (upd H a (.dK (p_5 kvs k))) s'→RelV v w'→Q w' s'):wpAny (model X.prog X.w) A (call (.builtin "dict.pop") (.ref a::u::more)) Q E s:=by
 obtain⟨z,hd,vs,rel,dd⟩:=bw_9 I.hok e;obtain⟨w',hw,rw'⟩:=RelO.some_of (v:=v) (o:=valueAt vs k) (by rw [←l];exact rel.val k);have hp:(keyPart u).isSome=true:=by
  cases k with
  |inl i=>obtain⟨t,q⟩:=(show∃t,u=Value.int i t from ry);subst q;rfl
  |inr x=>obtain⟨t,q⟩:=(show∃t,u=Value.str x t from ry);subst q;rfl
 have ha:argsOk "dict.pop" ⟨.ref a::u::more, []⟩:=by
  rcases hm with q|⟨x,q⟩
  ·subst q;exact PySem.F.args_dict_pop_2 _ _
  ·subst q;exact PySem.F.args_dict_pop_3 _ _ _
 refine call_meetsIn PySem.F.slot_dict_pop dd.typeIs PySem.F.entry_dict_pop ha (meets_dict_pop_there (e_1 X.prog X.w) a (af_3 ry) more hm hp)
  ⟨vs,w',dd,by rw [←rel.length];exact z,hw,fun h' dd' hs=>h w' _ ?_ rw'⟩
 have he:∃q,h'.get? a=some q:=let⟨q,_,_,hq,_⟩:=dd';⟨q,hq⟩;exact af_4 I (by rw [e];exact True.intro) hs he (bb_8 (Nat.le_trans (ck_6 kvs k) z) hd (rel.drop k) dd')
theorem dn_6{Q:Value→Shared→Prop}(I:Inv X zd σ H s)(e:Rd H a (.dK kvs))(h:∀t s',Inv X zd σ H s'→Q (.int kvs.length t) s'):wpAny (model X.prog X.w) A (call (.builtin "len") [.ref a]) Q E s:=by
 obtain⟨z,hd,vs,rel,dd⟩:=t_0 I.hok e;refine call_len_dict hd dd (by rw [←rel.length];rw [sizeLine_eq] at z;omega) ?_;rw [←rel.length];exact h _ _ (I.tok _)
end
def NoSl(i:Expr):Prop:=∀ov iv,subscripted i false ov iv=operate [ov,iv] (getItem ov iv)
theorem cu_5{prog:Program}{w:World}{A:Around}{E:Value→Shared→Prop}{s:Shared}{env:Env}{value slice:Expr}{T id:String}{Q:Value→Shared→Prop}
  (hl:typeLookup (.type T) "__getitem__" =pure (some (.builtin id))) (hs:NoSl slice)
  (h:wpAny (model prog w) A (eval value env) (fun o s₁=>wpAny (model prog w) A (eval slice env) (fun i s₂=>s₂.TypeIs o T∧wpAny (model prog w) A (getItem o i) Q E s₂) E s₁) E s):
  wpAny (model prog w) A (eval (.Subscript value slice pos) env) Q E s:=by
 refine Subscript_ (wpAny_mono h (fun o s₁ h₁=>wpAny_mono h₁ (fun i s₂ h₂=> ?_) fun _ _ x=>x) fun _ _ x=>x);obtain⟨hT,h₂⟩:=h₂;unfold subscriptTail;refine wpAny_bind ?_;rw [getitemInPython_of_ne hT.not_modules];refine wpAny_bind (wpAny_specialOf hT hl ?_);have fin:wpAny (model prog w) A (subscripted slice false o i) (fun r s₃=>wpAny (model prog w) A (letTemporaryGo value o r >>=fun _=>pure r) Q E s₃) E s₂:=by
  rw [hs o i];exact wpAny_operating (wpAny_mono h₂ (fun r s₃ h₃=>wpAny_bind (wpAny_letTemporaryGo (wpAny_pure h₃))) fun _ _ x=>x)
 first
  |exact wpAny_pure (wpAny_bind fin)
  |exact wpAny_bind (wpAny_pure (wpAny_bind fin))
  |exact wpAny_bind fin
theorem bh_6{zd:List (Addr×Obj)}{σ:St}{s:Shared}{a:Addr}{y:V}{o:Option V}(I:Inv X zd σ H s)(g:DGet H a y o):s.TypeIs (.ref a) "dict" :=by
 rcases g with⟨kvs,k,e,_,_⟩|⟨kvs,k,b,e,_,_,_⟩
 ·obtain⟨_,_,vs,_,dd⟩:=t_0 I.hok e;exact dd.typeIs
 ·obtain⟨_,_,xs,_,dd⟩:=ap_3 I.hok e;exact dd.typeIs
def dn_7(td ty:TE):TE:=fun σ H Q=>td σ H fun x H1=>ty σ H1 fun y H2=>∃a v,x= .ref a∧DGet H2 a y (some v)∧Q v H2
def dn_8(td ty tv:TE):TS:=fun D σ H=>tv σ H fun v H1=>td σ H1 fun x H2=>ty σ H2 fun y H3=>∃a H4,x= .ref a∧DPut H3 a y v H4∧D.nx σ H4
section
variable{X:Cx}{o i e value:Expr}{pos pos' zh:Pos}{td ty tv:TE}
theorem cu_6(hu:X.A.units + 1 < cLine)(ho:PE X o td)(hi:PE X i ty)(hs:NoSl i):PE X (.Subscript o i pos) (dn_7 td ty):=by
 intro zd s σ H Q I h;refine cu_5 PySem.F.slot_dict_getitem.lookup hs (thn (ho zd s σ H _ I h) fun u s1 ⟨x,H1,I1,rx,q1⟩=>thn (hi zd s1 σ H1 _ I1 q1) fun iv s2 ⟨y,H2,I2,ry,a,v,ex,g,q2⟩=> ?_);subst ex;obtain rfl:u=Value.ref a:=rx;exact⟨bh_6 I2 g,cd_4 hu I2 g ry fun w' s3 I3 rw'=>⟨v,H2,I3,rw',q2⟩⟩
theorem bx_0(hu:X.A.units + 1 < cLine)(ho:PE X o td)(hi:PE X i ty)(hv:PE X value tv)(hs:swapsWith value (some (.Subscript o i pos')) pos.line X.env=pure false):
  PS X (.Assign [.Subscript o i pos'] value pos) (dn_8 td ty tv):=by
 intro zd s σ H D I h;refine wpAny_Assign_Subscript (thn (hv zd s σ H _ I h) fun r s1 ⟨v,H1,I1,rv,q1⟩=>thn (ho zd s1 σ H1 _ I1 q1) fun u s2 ⟨x,H2,I2,rx,q2⟩=>thn (hi zd s2 σ H2 _ I2 q2) fun iv s3 ⟨y,H3,I3,ry,a,H4,ex,g,q3⟩=> ?_) hs;subst ex;obtain rfl:u=Value.ref a:=rx;exact cd_5 hu I3 g ry rv fun s4 I4=>⟨σ,H4,I4,q3⟩
end
theorem bh_7{P:Program}{w:World}(h:Heap)(hb:sysModules < h.objs.size):ObjOk P w H (h.push {cls:= .type "dict",data:= .dict #[]}) h.objs.size (.dK []):=
 ⟨Nat.zero_le _,beq_eq_false_iff_ne.mpr (Ne.symm (Nat.ne_of_lt hb)), [], .nil,Heap.DictOf.new h⟩
def dg_2:TE:=fun _ H Q=>∀p,H p=none→Q (.ref p) (upd H p (.dK []))
section
variable{X:Cx}{pos:Pos}
theorem ck_7:PE X (.Dict [] [] pos) dg_2:=fun zd s σ H Q I h=>
 wpAny_Dict_empty ⟨.ref s.heap.objs.size,_,I.laid (a:=s.heap.objs.size) (o:= .dK []) (t':=s.toks) (fun _ _ q=>Heap.get?_push_of_some _ q) (Nat.le_refl _) (bh_7 s.heap I.big),rfl,h _ (I.hok.fresh (Nat.le_refl _))⟩
end
def bq_8:List (TE×TE)→St→Hp→(List (V×V)→Hp→Prop)→Prop
 | [],_,H,Q=>Q [] H
 |(tk,tv)::r,σ,H,Q=>tk σ H fun x H1=>tv σ H1 fun y H2=>bq_8 r σ H2 fun ps H3=>Q ((x,y)::ps) H3
abbrev VV:List (V×V)→List (Value×Value)→Prop:=Paired fun p q=>RelV p.1 q.1∧RelV p.2 q.2
def PPs(X:Cx)(pos:Pos)(keys:List (Option Expr))(values:List Expr)(trs:List (TE×TE)):Prop:=
 ∀(zd:List (Addr×Obj)) (s:Shared) (σ:St) (H:Hp) (Q:List (V×V)→Hp→Prop),Inv X zd σ H s→bq_8 trs σ H Q→
  wpAny (model X.prog X.w) X.A (evalPairs (pairTrees keys values X.env pos)) (fun vs s'=>∃ps H',Inv X zd σ H' s'∧VV ps vs∧Q ps H') X.xe s
theorem cu_7:PPs X pos [] [] []:=fun zd s σ H Q I h=>pairTrees_nil_walk ⟨[],H,I, .nil,h⟩
theorem ck_8{k v:Expr}{ks:List (Option Expr)}{vs:List Expr}{tk tv:TE}{trs:List (TE×TE)}(hk:PE X k tk)(hv:PE X v tv)(hr:PPs X pos ks vs trs):
  PPs X pos (some k::ks) (v::vs) ((tk,tv)::trs):=fun zd s σ H Q I h=>
 pairTrees_cons_walk (thn (hk zd s σ H _ I h) fun u s1 ⟨x,H1,I1,rx,q1⟩=>thn (hv zd s1 σ H1 _ I1 q1) fun w2 s2 ⟨y,H2,I2,ry,q2⟩=>
  thn (hr zd s2 σ H2 _ I2 q2) fun ws s3 ⟨ps,H3,I3,rel,q3⟩=>⟨(x,y)::ps,H3,I3, .cons ⟨rx,ry⟩ rel,q3⟩)
def ap_4(kvs more:List (Key×V)):List (Key×V):=more.foldl (fun zn kv=>q_3 zn kv.1 kv.2) kvs
theorem KV.merge:∀{more:List (Key×V)} {rs:List (Key×Value)} {kvs:List (Key×V)} {vs:List (Key×Value)},KV more rs→KV kvs vs→KV (ap_4 kvs more) (merged vs rs):=by
 intro more rs kvs vs r;unfold KV at r
 induction r generalizing kvs vs with
 |nil=>intro q;exact q
 | @cons p q ps qs h t ih=>
  intro r0;have e:KV (q_3 kvs p.1 p.2) (stored vs q.1 q.2):=by
   have:=r0.put p.1 h.2;rw [←h.1];exact this
  exact ih e
theorem ac_4:∀(more kvs:List (Key×V)),(ap_4 kvs more).length≤kvs.length + more.length
 | [],kvs=>by show kvs.length≤kvs.length + 0;omega
 |p::r,kvs=>by
  have h1:=ac_4 r (q_3 kvs p.1 p.2);have h2:=s_9 kvs p.1 p.2;show(ap_4 (q_3 kvs p.1 p.2) r).length≤_;rw [List.length_cons];omega
theorem ap_5{P:Program}{w:World}:∀{kvs:List (Key×V)} {ws:List (Value×Value)},VV (kvs.map fun kv=>(kV kv.1,kv.2)) ws→∃rs,Carries (e_1 P w) ws rs∧KV kvs rs
 | [],_,r=>by rw [List.map_nil] at r;cases r;exact⟨[],True.intro, .nil⟩
 |p::kvs,_,r=>by
  rw [List.map_cons] at r;cases r with
  | @cons a b as bs h t=>
   obtain⟨rs,c,q⟩:=ap_5 (P:=P) (w:=w) t;obtain⟨b1,b2⟩:=b;exact⟨(p.1,b2)::rs,⟨af_3 h.1,rfl,c⟩, .cons ⟨rfl,h.2⟩ q⟩
def dn_9(trs:List (TE×TE)):TE:=fun σ H Q=>∀p,H p=none→bq_8 trs σ (upd H p (.dK [])) fun ps H2=>H2 p=some (.dK [])∧∃kvs:List (Key×V),ps=kvs.map (fun kv=>(kV kv.1,kv.2))∧kvs.length≤15∧Q (.ref p) (upd H2 p (.dK (ap_4 [] kvs)))
theorem cu_8{keys:List (Option Expr)}{values:List Expr}{trs:List (TE×TE)}(h:PPs X pos keys values trs)(ba:keys.all (·.isSome)=true)(hl:keys.length=values.length)(h0:keys≠ [])
  (h15:keys.length≤15):PE X (.Dict keys values pos) (dn_9 trs):=by
 intro zd s σ H Q I q;have hn:=I.hok.fresh (Nat.le_refl s.heap.objs.size);have I1:=I.laid (a:=s.heap.objs.size) (o:= .dK []) (h':=s.heap.push {cls:= .type "dict",data:= .dict #[]}) (t':=s.toks) (fun _ _ q=>Heap.get?_push_of_some _ q) (Nat.le_refl _) (bh_7 s.heap I.big);refine wpAny_Dict_walk (knd:=e_1 X.prog X.w) ba hl h0 h15 (thn (h zd _ σ _ _ I1 (q _ hn)) fun ws s2 ⟨ps,H2,I2,rel,e,kvs,ep,lk,q2⟩=> ?_);subst ep;obtain⟨rs,c,rk⟩:=ap_5 (P:=X.prog) (w:=X.w) rel;obtain⟨z,hd,vs0,r0,dd⟩:=bw_9 I2.hok e;cases r0;refine⟨rs,c,dd,fun h' dd' hs=>⟨.ref s.heap.objs.size,_, ?_,rfl,q2⟩⟩;have hz:(ap_4 [] kvs).length≤sizeLine:=by
  have h1:=ac_4 kvs [];rw [List.length_nil] at h1;rw [sizeLine_eq];omega
 have he:∃q,h'.get? s.heap.objs.size=some q:=let⟨q,_,_,hq,_⟩:=dd';⟨q,hq⟩;exact af_4 I2 (by rw [e];exact True.intro) hs he (bb_8 hz hd (rk.merge .nil) dd')
structure M1(X:Cx)(o:Expr)(m:Str)(zg:Pos)(e:Expr)(zf:Pos):Prop where
 base:attributeBase o m X.env (eval o X.env)=eval o X.env
 few:((backTo zf (starEach [e] X.env)).all (fun x=> !x.1) && (backToKw zf (keywordEach [] X.env)).all (fun x=>x.1.isSome)
  && decide (([e]:List Expr).length + ([]:List Keyword).length + (if([]:List Keyword).isEmpty then 0 else 1) < 30))=true
 line:(zg.endLine ==zf.line)=true
 trees:backTo zf (starEach [e] X.env)= [(false,eval e X.env)]
structure M2(X:Cx)(o:Expr)(m:Str)(zg:Pos)(e f:Expr)(zf:Pos):Prop where
 base:attributeBase o m X.env (eval o X.env)=eval o X.env
 few:((backTo zf (starEach [e,f] X.env)).all (fun x=> !x.1) && (backToKw zf (keywordEach [] X.env)).all (fun x=>x.1.isSome)
  && decide (([e,f]:List Expr).length + ([]:List Keyword).length + (if([]:List Keyword).isEmpty then 0 else 1) < 30))=true
 line:(zg.endLine ==zf.line)=true
 trees:backTo zf (starEach [e,f] X.env)= [(false,eval e X.env),(false,eval f X.env)]
def IsD(H:Hp)(a:Addr):Prop:=(∃kvs,Rd H a (.dK kvs))∨∃kvs,Rd H a (.dT kvs)
theorem bq_9{zd:List (Addr×Obj)}{σ:St}{s:Shared}{a:Addr}(I:Inv X zd σ H s)(d:IsD H a):
  s.TypeIs (.ref a) "dict" ∧(∀b,Value.ref a= .ref b→∃ob,s.heap.get? b=some ob∧ob.dict=none)∧(a ==sysModules)=false:=by
 rcases d with⟨kvs,e⟩|⟨kvs,e⟩
 ·obtain⟨_,hd,vs,_,dd⟩:=t_0 I.hok e;refine⟨dd.typeIs,fun b q=> ?_,hd⟩;cases q;obtain⟨ob,_,_,h1,h2,_⟩:=dd;exact⟨ob,h1,h2.2.1⟩
 ·obtain⟨_,hd,xs,_,dd⟩:=ap_3 I.hok e;refine⟨dd.typeIs,fun b q=> ?_,hd⟩;cases q;obtain⟨ob,_,_,h1,h2,_⟩:=dd;exact⟨ob,h1,h2.2.1⟩
section
variable{X:Cx}{zd:List (Addr×Obj)}{σ:St}{H:Hp}{s:Shared}{a:Addr}{y d:V}{u r:Value}{o:Option V}{A:Around}{E:Value→Shared→Prop}
theorem dg_3{Q:Value→Shared→Prop}(hu:A.units + 1 < cLine)(I:Inv X zd σ H s)(g:DGet H a y o)(ry:RelV y u)(rd:RelV d r)(h:∀w' s',Inv X zd σ H s'→RelV (o.getD d) w'→Q w' s'):
  wpAny (model X.prog X.w) A (call (.builtin "dict.get") [.ref a,u,r]) Q E s:=by
 rcases g with⟨kvs,k,e,ey,l⟩|⟨kvs,k,b,e,ey,eb,l⟩
 ·subst ey;obtain⟨z,hd,vs,rel,dd⟩:=t_0 I.hok e;refine call_meetsIn PySem.F.slot_dict_get dd.typeIs PySem.F.entry_dict_get (PySem.F.args_dict_get_3 _ _ _) (meets_dict_get_default (e_1 X.prog X.w) a (af_3 ry) hd r) ⟨_,dd.mapOf,h _ _ (I.tok _) ?_⟩;rw [l];exact(rel.val k).getD rd
 ·subst ey;cases(show u=Value.ref b from ry);obtain⟨z,hd,xs,rel,dd⟩:=ap_3 I.hok e;refine call_meetsIn PySem.F.slot_dict_get dd.typeIs PySem.F.entry_dict_get (PySem.F.args_dict_get_3 _ _ _) (meetsH_dict_get_default (tupleKind (e_1 X.prog X.w)) a b hd r) ⟨tupleKind_room_in1 hu,k,xs,ai_0 I.hok eb,dd,h _ _ (I.tok _) ?_⟩;rw [l];exact(rel.val k).getD rd
end
def dg_4(td ty tx:TE):TE:=fun σ H Q=>td σ H fun x H1=>∃a,x= .ref a∧IsD H1 a∧ty σ H1 fun y H2=>tx σ H2 fun z H3=>∃o,DGet H3 a y o∧Q (o.getD z) H3
def dg_5(td ty:TE):TE:=fun σ H Q=>td σ H fun x H1=>∃a,x= .ref a∧IsD H1 a∧ty σ H1 fun y H2=>∃kvs k v,H2 a=some (.dK kvs)∧y=kV k∧j_9 kvs k=some v∧Q v (upd H2 a (.dK (p_5 kvs k)))
section
variable{X:Cx}{o e f:Expr}{zg zf:Pos}{td ty tx:TE}
theorem ck_9(hu:X.A.units + 1 < cLine)(ho:PE X o td)(he:PE X e ty)(hf:PE X f tx)(m:M2 X o "get" zg e f zf):PE X (.Call (.Attribute o "get" zg) [e,f] [] zf) (dg_4 td ty tx):=by
 intro zd s σ H Q I h;refine wpAny_Call_method m.base m.few m.line PySem.F.plainAttrs_dict PySem.F.slot_dict_get PySem.F.type_dict_get (thn (ho zd s σ H _ I h) fun u s1 ⟨x,H1,I1,rx,a,ex,d,q1⟩=> ?_);subst ex;obtain rfl:u=Value.ref a:=rx;obtain⟨t1,t2,_⟩:=bq_9 I1 d;refine⟨t1,t2, ?_⟩;rw [m.trees];refine Calls.callWith_builtin rfl (Calls.evalArgs_plain (Calls.spliced_cons (thn (he zd s1 σ H1 _ I1 q1) fun iv s2 ⟨y,H2,I2,ry,q2⟩=>
  Calls.spliced_cons (thn (hf zd s2 σ H2 _ I2 q2) fun fv s3 ⟨z,H3,I3,rz,ov,g,q3⟩=>Calls.spliced_nil ?_))))
 exact dg_3 hu I3 g ry rz fun w' s4 I4 rw'=>⟨_,H3,I4,rw',q3⟩
theorem bh_8(ho:PE X o td)(he:PE X e ty)(m:M1 X o "pop" zg e zf):PE X (.Call (.Attribute o "pop" zg) [e] [] zf) (dg_5 td ty):=by
 intro zd s σ H Q I h;refine wpAny_Call_method m.base m.few m.line PySem.F.plainAttrs_dict PySem.F.slot_dict_pop PySem.F.type_dict_pop (thn (ho zd s σ H _ I h) fun u s1 ⟨x,H1,I1,rx,a,ex,d,q1⟩=> ?_);subst ex;obtain rfl:u=Value.ref a:=rx;obtain⟨t1,t2,_⟩:=bq_9 I1 d;refine⟨t1,t2, ?_⟩;rw [m.trees];refine Calls.callWith_builtin rfl (Calls.evalArgs_plain (Calls.spliced_cons (thn (he zd s1 σ H1 _ I1 q1) fun iv s2 ⟨y,H2,I2,ry,kvs,k,v,ea,ey,l,q2⟩=>Calls.spliced_nil ?_)));subst ey;exact dn_5 I2 ea ry l (.inl rfl) fun w' s3 I3 rw'=>⟨v,_,I3,rw',q2⟩
end
section
variable{X:Cx}{zd:List (Addr×Obj)}{σ:St}{H:Hp}{s:Shared}{a:Addr}{kvs:List (Key×V)}{A:Around}{E:Value→Shared→Prop}
end
section
variable{X:Cx}{zd:List (Addr×Obj)}{σ:St}{H:Hp}{s:Shared}{a:Addr}{y:V}{u:Value}{A:Around}{E:Value→Shared→Prop}
end
section
variable{X:Cx}
end
section
variable{κ:Type} [DecidableEq κ]
theorem cd_6{p:κ×V}{r:List (κ×V)}{k:κ}(e:p.1=k):p_5 (p::r) k=p_5 r k:=by
 unfold p_5;rw [List.filter_cons,if_neg (by simp [e])]
theorem cd_7{p:κ×V}{r:List (κ×V)}{k:κ}(e:¬p.1=k):p_5 (p::r) k=p::p_5 r k:=by
 unfold p_5;rw [List.filter_cons,if_pos (by simp [e])]
end
end L2
namespace L3
open PySem PySem.Spec PyProof.Rows L2
variable{K:Frag}{fd:FuncData}{mg:Str→Option Value}{us:List Value}{base:Heap}{H:Hp}{X:Cx}{pos:Pos}{v:V}
section
variable{X:Cx}
theorem e_4{EX:EXT}{G H:Hp}{Q:VK}{d:D}(o:Out K EX G H (.ok (.sh d)) Q)(g:Same G H)(r:Has K G v d):Q v H:=WP.use o g r
def do_0(K:Frag):R2:=fun x y H Q=>∃l b xs zs,x= .ref l∧y= .ref b∧SqL K H l xs∧SqL K H b zs∧xs.length + zs.length≤sizeLine∧∀p,H p=none→Q (.ref p) (upd H p (.lst (xs ++ zs)))
theorem cu_9:OpR X (binaryOp .Add) (do_0 X.K):=by
 intro zd s σ H x y v u Q I rx ry h;obtain⟨l,b,xs,zs,rfl,rfl,hH,hB,hz,q⟩:=h;cases rx;cases ry;obtain⟨its,r,⟨o,n,e,c,dd,dat⟩,z⟩:=I.list hH;obtain⟨its2,r2,⟨o2,n2,e2,c2,dd2,dat2⟩,z2⟩:=I.list hB;have hl:=r.length;have hl2:=r2.length;obtain⟨cls,dd',data,sl⟩:=o;obtain⟨fz,fw,data2,sl2⟩:=o2;simp only at c dd dat c2 dd2 dat2;subst c dd dat c2 dd2 dat2;refine concat_meets ⟨_,e,rfl⟩ ⟨_,e2,rfl⟩ noFill_list_add seq_list_add PySem.F.slot_list_add PySem.F.entry_list_add (PySem.F.args_list_add_2 _ _) (list_addW l b its.toArray its2.toArray n n2 none none sl sl2 (by rw [List.size_toArray,List.size_toArray];omega)) ⟨e,e2, ?_⟩;have ea:its.toArray ++ its2.toArray=(its ++ its2).toArray:=by simp
 rw [ea];exact⟨.ref _,_,I.lnew (t':=s.toks) (r.append r2) (by rw [List.length_append];omega),rfl,q _ I.fresh⟩
def g_7:D→D→R W
 | .int i, .int j=> .ok (.sh (.int (i + j)))
 | .str x, .str y=>if x.length + y.length≤16777216 then .ok (.sh (.str (x ++ y))) else .no
 | .lst a, .lst b=>if a.length + b.length≤16777216 then .ok (.ow (.lst (a ++ b))) else .no
 |_,_=> .no
theorem c_1:OpD X (binaryOp .Add) g_7:=by
 intro zd s σ H x y v u Q I rx ry h;obtain⟨EX,G,a,b,g,ra,rb,o⟩:=h;cases ra with
 |int i=>
  cases rb with
  |int j=>exact de_5 zd s σ H _ _ _ _ Q I rx ry ⟨i,j,rfl,rfl,e_4 o g (.int _)⟩
  |_=>exact False.elim o
 |str x=>
  cases rb with
  |str y=>
   simp only [g_7] at o
   split at o
   ·rename_i hz;exact bp_7 zd s σ H _ _ _ _ Q I rx ry ⟨x,y,rfl,rfl,by rw [sizeLine_eq];exact hz,e_4 o g (.str _)⟩
   ·exact o.elim
  |_=>exact False.elim o
 |lst h1 r1=>
  cases rb with
  |lst h2 r2=>
   simp only [g_7] at o
   split at o
   ·rename_i hz;exact cu_9 zd s σ H _ _ _ _ Q I rx ry ⟨_,_,_,_,rfl,rfl,g.seq h1,g.seq h2,by rw [r1.length,r2.length,sizeLine_eq];exact hz,v_7 o g (r1.append r2)⟩
   ·exact o.elim
  |_=>exact False.elim o
 |_=>cases rb <;> exact False.elim o
def intD(C:Int→Int→Bool)(f:Int→Int→Int):D→D→R W
 | .int i, .int j=>if C i j=true then .ok (.sh (.int (f i j))) else .no
 |_,_=> .no
theorem af_5{fn:Value→Value→Sem Value}{C:Int→Int→Bool}{P:Int→Int→Prop}{f:Int→Int→Int}(h:OpR X fn (rI P fun i j=> .int (f i j)))(hC:∀i j,C i j=true→P i j):OpD X fn (intD C f):=by
 intro zd s σ H x y v u Q I rx ry q;obtain⟨EX,G,a,b,g,ra,rb,o⟩:=q;cases ra with
 |int i=>
  cases rb with
  |int j=>
   simp only [intD] at o
   split at o
   ·rename_i hc;exact h zd s σ H _ _ _ _ Q I rx ry ⟨i,j,rfl,rfl,hC i j hc,e_4 o g (.int _)⟩
   ·exact o.elim
  |_=>exact False.elim o
 |_=>cases rb <;> exact False.elim o
def subD:D→D→R W:=intD (fun _ _=>true) (fun i j=>i - j)
def mulC(i j:Int):Bool:=decide (i.natAbs < 18446744073709551616∨j.natAbs < 18446744073709551616)
def s_7:D→D→R W:=intD mulC (fun i j=>i * j)
def divC(_ j:Int):Bool:=decide (0 < j∧j.natAbs < 1361129467683753853853498429727072845824)
def n_4:D→D→R W:=intD divC (fun i j=>i / j)
def modC(_ j:Int):Bool:=decide (0 < j)
def d_6:D→D→R W:=intD modC (fun i j=>i % j)
def powC(i j:Int):Bool:=decide (0≤j∧j.natAbs≤1000000∧i.natAbs < 18446744073709551616)
def powD:D→D→R W:=intD powC (fun i j=>i ^ j.toNat)
theorem o_7:OpD X (binaryOp .Sub) subD:=af_5 (P:=fun _ _=>True) (opI fun _ _ _ _ _ _ _ _ q=>sub_int q) fun _ _ _=>trivial
theorem h_4:OpD X (binaryOp .Mult) s_7:=af_5 de_6 fun i j h=>by
 have h:=of_decide_eq_true h;rcases h with h|h
 ·exact .inl ⟨by omega,by omega⟩
 ·exact .inr ⟨by omega,by omega⟩
theorem g_0:OpD X (binaryOp .FloorDiv) n_4:=af_5 (P:=fun _ j=>0 < j∧j.natAbs < 1361129467683753853853498429727072845824) (opI fun i j _ _ _ _ _ hc q=>by
 have h1:(0:Int) < j:=hc.1;have h2:=hc.2;refine floordiv_int (by omega) ?_ (.inl (PyProof.noPylong_of_log2 ?_))
 ·rw [Int.fdiv_eq_ediv_of_nonneg i (by omega)];exact q
 ·have:j.natAbs < 2 ^ 130:=by
   have e:(2:Nat) ^ 130=1361129467683753853853498429727072845824:=by decide
   omega
  have l:j.natAbs.log2 < 130:=(Nat.log2_lt (by omega)).mpr this;omega) fun i j h=>of_decide_eq_true h
theorem b_3:OpD X (binaryOp .Mod) d_6:=af_5 de_7 fun i j h=>of_decide_eq_true h
theorem cv_1{i j:Int}(h:powC i j=true):CPow i j:=by
 obtain⟨h1,h2,h3⟩:=of_decide_eq_true h;refine⟨h1,by omega, ?_⟩;have e:(2:Nat) ^ 64=18446744073709551616:=by decide
 omega
theorem v_9:OpD X (binaryOp .Pow) powD:=af_5 de_8 fun i j h=>cv_1 h
def cmpD(f:Int→Int→Bool):D→D→R W
 | .int i, .int j=> .ok (.sh (.bl (f i j)))
 |_,_=> .no
theorem bc_0{fn:Value→Value→Sem Value}{f:Int→Int→Bool}(h:OpR X fn (rI0 fun i j=> .bl (f i j))):OpD X fn (cmpD f):=by
 intro zd s σ H x y v u Q I rx ry q;obtain⟨EX,G,a,b,g,ra,rb,o⟩:=q;cases ra with
 |int i=>
  cases rb with
  |int j=>exact h zd s σ H _ _ _ _ Q I rx ry ⟨i,j,rfl,rfl,e_4 o g (.bl _)⟩
  |_=>exact False.elim o
 |_=>cases rb <;> exact False.elim o
def ltD:D→D→R W:=cmpD fun i j=>decide (i < j)
def leD:D→D→R W:=cmpD fun i j=>decide (i≤j)
def gtD:D→D→R W:=cmpD fun i j=>decide (j < i)
theorem bc_1:OpD X (compareOp .Lt) ltD:=bc_0 dm_7
theorem ap_7:OpD X (compareOp .LtE) leD:=bc_0 dm_8
theorem cl_0:OpD X (compareOp .Gt) gtD:=bc_0 dm_9
mutual
def o_1:D→PyData
 | .non=> .none
 | .bl b=> .bool b
 | .int i=> .int i
 | .str x=> .str x
 | .lst ds=> .list (t_1 ds)
 | .tup ds=> .tuple (t_1 ds)
 | .dic _=> .dict []
 | .exn _ _ _=> .dict []
 | .obj _ _ _=> .dict []
def t_1:List D→List PyData
 | []=> []
 |d::ds=>o_1 d::t_1 ds
end
mutual
theorem Has.reads(hK:X.K=K){zd:List (Addr×Obj)}{σ:Sg}{s:Shared}(I:Inv X zd σ H s){G:Hp}(g:Same G H):∀{v:V} {d:D} {u:Value},(o_1 d).canLay0=true→Has K G v d→RelV v u→∃as,Reads s.heap u (o_1 d) as
 |_,_,_,_, .non,r=>by cases r;exact⟨_, .none⟩
 |_,_,_,_, .bl b,r=>by cases r;exact⟨_, .bool b⟩
 |_,_,_,_, .int i,r=>by obtain⟨t,rfl⟩:=r;exact⟨_, .int i t⟩
 |_,_,_,_, .str x,r=>by obtain⟨t,rfl⟩:=r;exact⟨_, .str x t⟩
 |_,_,_,c, .lst h r,q=>by
  cases q;obtain⟨its,rv,⟨o,n,e,c',_,dat⟩,_⟩:=I.list (by rw [hK];exact g.seq h);obtain⟨as,z⟩:=HasL.reads hK I g c r rv;exact⟨_, .list e c' dat z⟩
 |_,_,_,c, .tup h r,q=>by
  cases q;obtain⟨its,rv,⟨o,e,c',n,dat⟩,_⟩:=I.tuple (by rw [hK];exact Same.tupS g h);obtain⟨as,z⟩:=HasL.reads hK I g c r rv;exact⟨_, .tuple e c' dat z⟩
 |_,_,_,c, .exn0 _ _,_=>absurd c Bool.false_ne_true
 |_,_,_,c, .exn1 _ _ _ _ _,_=>absurd c Bool.false_ne_true
 |_,_,_,c, .dic _ _ _,_=>absurd c Bool.false_ne_true
 |_,_,_,c, .obj _ _ _ _,_=>absurd c Bool.false_ne_true
theorem HasL.reads(hK:X.K=K){zd:List (Addr×Obj)}{σ:Sg}{s:Shared}(I:Inv X zd σ H s){G:Hp}(g:Same G H):∀{vs:List V} {ds:List D} {us:List Value},PyData.canLayAll0 (t_1 ds)=true→HasL K G vs ds→Vals vs us→∃as,ReadsAll s.heap us (t_1 ds) as
 |_,_,_,_, .nil,r=>by cases r;exact⟨_, .nil⟩
 |_,_,_,c, .cons h t,r=>by
  cases r with
  |cons r1 r2=>
   have c':(PyData.canLay0 (o_1 _) && PyData.canLayAll0 (t_1 _))=true:=c;rw [Bool.and_eq_true] at c';obtain⟨a1,z1⟩:=Has.reads hK I g c'.1 h r1;obtain⟨a2,z2⟩:=HasL.reads hK I g c'.2 t r2;exact⟨_, .cons z1 z2⟩
end
def eqC(a b:D):Bool:=(o_1 a).canLay0 && (o_1 b).canLay0 && decide ((o_1 a).depth≤60)
def eqvD(a b:D):Bool:=(o_1 a).eqv (o_1 b)
def eqD(a b:D):R W:=match a,b with
 | .str x, .str y=> .ok (.sh (.bl (decide (x=y))))
 |a,b=>if eqC a b=true then .ok (.sh (.bl (eqvD a b))) else .no
def neD(a b:D):R W:=match a,b with
 | .str x, .str y=> .ok (.sh (.bl (!decide (x=y))))
 |a,b=>if eqC a b=true then .ok (.sh (.bl (!eqvD a b))) else .no
theorem bh_9(x y:Str):decide (V.str x=V.str y)=decide (x=y):=by
 by_cases e:x=y
 ·subst e;simp
 ·rw [decide_eq_false e,decide_eq_false (fun z=>e (by injection z))]
theorem l_1(hu:X.A.units + 64 < cLine):OpD X (compareOp .Eq) eqD:=by
 intro zd s σ H x y v u Q I rx ry q;obtain⟨EX,G,a,b,g,ra,rb,o⟩:=q;unfold eqD at o
 split at o
 ·rename_i x y;cases ra;cases rb;exact dm_5 zd s σ H _ _ _ _ Q I rx ry ⟨rfl,by rw [bh_9];exact e_4 o g (.bl _)⟩
 ·split at o
  ·rename_i hc;unfold eqC at hc;rw [Bool.and_eq_true,Bool.and_eq_true] at hc;obtain⟨⟨h1,h2⟩,h3⟩:=hc;have h3:=of_decide_eq_true h3;obtain⟨as,za⟩:=Has.reads rfl I g h1 ra rx;obtain⟨bs,zb⟩:=Has.reads rfl I g h2 rb ry;refine PySem.SeqAt.compareEq_reads za zb h1 h2 ?_ ⟨.bl _,H,I,rfl,e_4 o g (.bl _)⟩;have:=Nat.min_le_left (o_1 a).depth (o_1 b).depth;omega
  ·exact o.elim
theorem ai_1(hu:X.A.units + 64 < cLine):OpD X (compareOp .NotEq) neD:=by
 intro zd s σ H x y v u Q I rx ry q;obtain⟨EX,G,a,b,g,ra,rb,o⟩:=q;unfold neD at o
 split at o
 ·rename_i x y;cases ra;cases rb;exact dm_6 zd s σ H _ _ _ _ Q I rx ry ⟨rfl,by rw [bh_9];exact e_4 o g (.bl _)⟩
 ·split at o
  ·rename_i hc;unfold eqC at hc;rw [Bool.and_eq_true,Bool.and_eq_true] at hc;obtain⟨⟨h1,h2⟩,h3⟩:=hc;have h3:=of_decide_eq_true h3;obtain⟨as,za⟩:=Has.reads rfl I g h1 ra rx;obtain⟨bs,zb⟩:=Has.reads rfl I g h2 rb ry;refine PySem.SeqAt.compareNe_reads za zb h1 h2 ?_ ⟨.bl _,H,I,rfl,e_4 o g (.bl _)⟩;have:=Nat.min_le_left (o_1 a).depth (o_1 b).depth;omega
  ·exact o.elim
def flatD:D→Bool
 | .non=>true
 | .bl _=>true
 | .int _=>true
 | .str _=>true
 |_=>false
def flV:D→V
 | .bl b=> .bl b
 | .int i=> .int i
 | .str x=> .str x
 |_=> .non
theorem Has.fl{G:Hp}{d:D}(r:Has K G v d)(f:flatD d=true):v=flV d∧ac_1 v=true:=by
 cases r with
 |non=>exact⟨rfl,rfl⟩
 |bl b=>exact⟨rfl,rfl⟩
 |int i=>exact⟨rfl,rfl⟩
 |str x=>exact⟨rfl,rfl⟩
 |lst _ _=>cases f
 |tup _ _=>cases f
 |exn0 _ _=>cases f
 |exn1 _ _ _ _ _=>cases f
 |dic _ _ _=>cases f
 |obj _ _ _ _=>cases f
theorem Has.ofFl{G G':Hp}{d:D}(r:Has K G v d)(f:flatD d=true):Has K G' v d:=by
 cases r with
 |non=>exact .non
 |bl b=>exact .bl b
 |int i=>exact .int i
 |str x=>exact .str x
 |lst _ _=>cases f
 |tup _ _=>cases f
 |exn0 _ _=>cases f
 |exn1 _ _ _ _ _=>cases f
 |dic _ _ _=>cases f
 |obj _ _ _ _=>cases f
theorem HasL.fl{G:Hp}:∀{vs:List V} {ds:List D},HasL K G vs ds→ds.all flatD=true→vs=ds.map flV∧vs.all ac_1=true
 |_,_, .nil,_=>⟨rfl,rfl⟩
 |_,_, .cons h r,f=>by
  rw [List.all_cons,Bool.and_eq_true] at f;obtain⟨e1,e2⟩:=h.fl f.1;obtain⟨e3,e4⟩:=HasL.fl r f.2;exact⟨by rw [List.map_cons,←e1,←e3],by rw [List.all_cons,e2,e4];rfl⟩
def eqF(a b:D):Bool:=eqV (flV a) (flV b)
def memD(d:D)(ds:List D):Bool:=ds.any fun y=>eqF y d
theorem bx_1(d:D)(ds:List D):inV (flV d) (ds.map flV)=memD d ds:=by
 unfold inV memD;rw [List.any_map];rfl
def inD(neg:Bool):D→D→R W
 | .str i, .str j=> .ok (.sh (.bl (if neg then !(!(Builtin.Str.occurrences j i 0 j.length 1).isEmpty) else !(Builtin.Str.occurrences j i 0 j.length 1).isEmpty)))
 |d, .lst ds=>if(flatD d && ds.all flatD)=true then .ok (.sh (.bl (if neg then !memD d ds else memD d ds))) else .no
 |d, .tup ds=>if(flatD d && ds.all flatD)=true then .ok (.sh (.bl (if neg then !memD d ds else memD d ds))) else .no
 |_,_=> .no
theorem cv_3{EX:EXT}{G H:Hp}{x y:V}{d:D}{e:D}{Q:VK}{neg:Bool}(g:Same G H)(ra:Has X.K G x d)(rb:Has X.K G y e)(hd:∀i j,d= .str i→e= .str j→False)(o:Out X.K EX G H (inD neg d e) Q):rIn X.K neg x y H Q:=by
 cases rb with
 |lst h r=>
  rename_i ds;have o':Out X.K EX G H (if(flatD d && ds.all flatD)=true then .ok (.sh (.bl (if neg then !memD d ds else memD d ds))) else .no) Q:=by
   cases d <;> exact o
  split at o'
  ·rename_i f;rw [Bool.and_eq_true] at f;obtain⟨e1,e2⟩:=ra.fl f.1;obtain⟨e3,e4⟩:=r.fl f.2;refine⟨_,_,rfl, .inl (g.seq h),e2,e4, ?_⟩;rw [e1,e3,bx_1];exact e_4 o' g (.bl _)
  ·exact o'.elim
 |tup h r=>
  rename_i ds;have o':Out X.K EX G H (if(flatD d && ds.all flatD)=true then .ok (.sh (.bl (if neg then !memD d ds else memD d ds))) else .no) Q:=by
   cases d <;> exact o
  split at o'
  ·rename_i f;rw [Bool.and_eq_true] at f;obtain⟨e1,e2⟩:=ra.fl f.1;obtain⟨e3,e4⟩:=r.fl f.2;refine⟨_,_,rfl, .inr (Same.tupS g h),e2,e4, ?_⟩;rw [e1,e3,bx_1];exact e_4 o' g (.bl _)
  ·exact o'.elim
 |str j=>
  cases d with
  |str i=>exact(hd i j rfl rfl).elim
  |_=>exact False.elim o
 |_=>cases d <;> exact False.elim o
theorem dg_6:OpD X (compareOp .In) (inD false):=by
 intro zd s σ H x y v u Q I rx ry q;obtain⟨EX,G,a,b,g,ra,rb,o⟩:=q
 by_cases hs:∃i j,a= .str i∧b= .str j
 ·obtain⟨i,j,rfl,rfl⟩:=hs;cases ra;cases rb;exact cc_3 zd s σ H _ _ _ _ Q I rx ry ⟨i,j,rfl,rfl,e_4 o g (.bl _)⟩
 ·exact cc_9 zd s σ H _ _ _ _ Q I rx ry (cv_3 g ra rb (fun i j e1 e2=>hs ⟨i,j,e1,e2⟩) o)
def lenD:List D→R W
 | [.str x]=>if x.length≤16777216 then .ok (.sh (.int x.length)) else .no
 | [.lst ds]=> .ok (.sh (.int ds.length))
 | [.tup ds]=> .ok (.sh (.int ds.length))
 |_=> .no
theorem k_0:ac_3 X (.builtin "len") lenD:=by
 intro zd s σ H vs us Q I rv q;obtain⟨EX,G,ds,g,r,o⟩:=q;cases r with
 |nil=>exact False.elim o
 |cons h t=>
  cases t with
  |cons _ _=>cases h <;> exact False.elim o
  |nil=>
   cases h with
   |str x=>
    simp only [lenD] at o
    split at o
    ·rename_i hz;exact bb_2 zd s σ H _ _ Q I rv ⟨x,rfl,by rw [sizeLine_eq];exact hz,e_4 o g (.int _)⟩
    ·exact o.elim
   |lst h r=>exact af_1 zd s σ H _ _ Q I rv ⟨_,_,rfl, .inl (g.seq h),by rw [r.length];exact e_4 o g (.int _)⟩
   |tup h r=>exact af_1 zd s σ H _ _ Q I rv ⟨_,_,rfl, .inr (Same.tupS g h),by rw [r.length];exact e_4 o g (.int _)⟩
   |_=>exact False.elim o
def maxD:List D→R W
 | [.int i, .int j]=> .ok (.sh (.int (if j > i then j else i)))
 |_=> .no
def minD:List D→R W
 | [.int i, .int j]=> .ok (.sh (.int (if j < i then j else i)))
 |_=> .no
theorem bi_0{G:Hp}{vs:List V}{ds:List D}(r:HasL K G vs ds){P:Prop}(h:∀i j,vs= [.int i, .int j]→ds= [.int i, .int j]→P)(n:(∀i j,ds≠ [.int i, .int j])→P):P:=by
 by_cases e:∃i j,ds= [.int i, .int j]
 ·obtain⟨i,j,rfl⟩:=e;cases r with
  |cons a t=>
   cases t with
   |cons b t2=>
    cases t2;cases a;cases b;exact h i j rfl rfl
 ·exact n fun i j z=>e ⟨i,j,z⟩
theorem cv_4{ds:List D}(h:∀i j,ds≠ [.int i, .int j]):maxD ds= .no:=by
 unfold maxD
 split
 ·rename_i i j;exact absurd rfl (h i j)
 ·rfl
theorem cv_5{ds:List D}(h:∀i j,ds≠ [.int i, .int j]):minD ds= .no:=by
 unfold minD
 split
 ·rename_i i j;exact absurd rfl (h i j)
 ·rfl
theorem aa_0(hc:X.calm=true):ac_3 X (.builtin "max") maxD:=by
 intro zd s σ H vs us Q I rv q;obtain⟨EX,G,ds,g,r,o⟩:=q;refine bi_0 r (fun i j e1 e2=> ?_) fun n=> ?_
 ·subst e1 e2;exact cc_4 hc zd s σ H _ _ Q I rv ⟨i,j,rfl,e_4 o g (.int _)⟩
 ·rw [cv_4 n] at o;exact o.elim
theorem cd_8(hc:X.calm=true):ac_3 X (.builtin "min") minD:=by
 intro zd s σ H vs us Q I rv q;obtain⟨EX,G,ds,g,r,o⟩:=q;refine bi_0 r (fun i j e1 e2=> ?_) fun n=> ?_
 ·subst e1 e2;exact cc_5 hc zd s σ H _ _ Q I rv ⟨i,j,rfl,e_4 o g (.int _)⟩
 ·rw [cv_5 n] at o;exact o.elim
def br_0:List D→R W
 | [.lst ds]=> .ok (.ow (.lst ds))
 | [.tup ds]=> .ok (.ow (.lst ds))
 |_=> .no
theorem bi_1:ac_3 X (.type "list") br_0:=by
 intro zd s σ H vs us Q I rv q;obtain⟨EX,G,ds,g,r,o⟩:=q;cases r with
 |nil=>exact False.elim o
 |cons h t=>
  cases t with
  |cons _ _=>cases h <;> exact False.elim o
  |nil=>
   cases h with
   |lst h r=>exact af_2 zd s σ H _ _ Q I rv ⟨_,_,rfl, .inl (g.seq h),v_7 o g r⟩
   |tup h r=>exact af_2 zd s σ H _ _ Q I rv ⟨_,_,rfl, .inr (Same.tupS g h),v_7 o g r⟩
   |_=>exact False.elim o
def cl_2:List D→R W
 | [.lst ds]=> .ok (.sh (.tup ds))
 | [.tup ds]=> .ok (.sh (.tup ds))
 |_=> .no
theorem br_1:ac_3 X (.type "tuple") cl_2:=by
 intro zd s σ H vs us Q I rv q;obtain⟨EX,G,ds,g,r,o⟩:=q;cases r with
 |nil=>exact False.elim o
 |cons h t=>
  cases t with
  |cons _ _=>cases h <;> exact False.elim o
  |nil=>
   cases h with
   |lst h r=>
    refine ac_2 zd s σ H _ _ Q I rv ⟨_,_,rfl, .inl ⟨g.seq h,fun p hp=> ?_⟩⟩;exact o (.ref p) _ _ (Step.new g hp _) (.tup (SqT.of a_9) (r.mono (k_5 (g.free hp) _)))
   |tup h r=>exact ac_2 zd s σ H _ _ Q I rv ⟨_,_,rfl, .inr ⟨Same.tupS g h,e_4 o g (.tup h r)⟩⟩
   |_=>exact False.elim o
end
structure RoomC(c:Bool)(k:Nat)(A:Around):Prop where
 hd:c=true→A.handled=none
 dp:A.depth + 3 * k + 5 < recursionLimit
 un:A.units + 16 * k + 200 < cLine
theorem RoomC.mono{c:Bool}{j k:Nat}{A:Around}(r:RoomC c k A)(h:j≤k):RoomC c j A:=⟨r.hd,by have:=r.dp;omega,by have:=r.un;omega⟩
theorem RoomC.deeper{c:Bool}{k:Nat}{A:Around}(r:RoomC c (k + 1) A)(env:Env):RoomC c k (A.deeper env):=
 ⟨r.hd,by have:=r.dp;show A.depth + 1 + 3 * k + 5 < _;omega,by have:=r.un;show A.units + 3 + 16 * k + 200 < _;omega⟩
theorem RoomC.make{c:Bool}{k:Nat}{A:Around}(r:RoomC c (k + 1) A)(C:Addr)(us:List Value)(kw:List (Str×Value)):RoomC c k (A.under (.builtin "type.__call__" ⟨.ref C::us,kw⟩)):=
 ⟨r.hd,by have:=r.dp;rw [bq_2];omega,by have:=r.un;rw [bq_3];omega⟩
theorem RoomC.loose{c:Bool}{k:Nat}{A:Around}(r:RoomC c k A):RoomC false k A:=⟨fun z=>absurd z Bool.false_ne_true,r.dp,r.un⟩
theorem RoomC.mark{c:Bool}{k:Nat}{A:Around}(r:RoomC c k A)(h:Option Value):RoomC false k (A.mark h):=⟨fun z=>absurd z Bool.false_ne_true,r.dp,r.un⟩
theorem RoomC.of{k:Nat}{A:Around}(r:Room k A):RoomC true k A:=⟨fun _=>r.hd,r.dp,r.un⟩
structure FnX(P:Program)(w:World)(K:Frag)(mg:Str→Option Value)(base:Heap)(c:Bool)(k:Nat)(f:Addr)(fd:FuncData)(ps:List Str)(sp:Sp):Prop where
 len:∀vs H Q E,sp vs H Q E→vs.length=ps.length
 run:∀(A:Around) (outer:List Env) (s:Shared) (H:Hp) (args:Args) (us:List Value) (vs:List V) (Q:VK) (E:XK),RoomC c k A→Env0 P w K mg base A outer s H→BindsTo s fd args (ps.zip us)→Vals vs us→sp vs H Q E→
  codeAny (model P w) A (.call (.ref f) args) (CR (CXr P w) outer P w H s Q E) s
abbrev cxN(c:Bool)(P:Program)(w:World)(K:Frag)(mg:Str→Option Value)(base:Heap)(N:List Str)(qual:Str)(scope:Scope)(f:Addr)(cd:Value)(A:Around)(outer:List Env)(s:Shared)(H:Hp)(E:XK):Cx:=
 {cxOf (CXr P w) P w K mg base N qual scope f cd A outer s H E with calm:=c}
theorem br_2{c:Bool}{P:Program}{w:World}{N ps:List Str}{qual:Str}{scope:Scope}{f:Addr}{cd:Value}{A:Around}{outer:List Env}{s s1:Shared}{E:XK}{vs:List V}
  (S:FnScope N ps scope) (hd:c=true→A.handled=none) (e0:Env0 P w K mg base A outer s H) (hl:vs.length=ps.length) (r:Vals vs us)
  (x:InCallC s s.heap.objs.size (bindL (envOfC qual scope s.heap.objs.size f cd).kindOf (ps.zip us) fun _=>none) (cellsFrom (s.heap.objs.size + 1) scope.names []) (bindC (envOfC qual scope s.heap.objs.size f cd).kindOf (ps.zip us) fun _=>none) s1):
  Inv (cxN c P w K mg base N qual scope f cd A outer s H E) [] (p_4 N vs) H s1:=by
 have I:=cc_6 (CX:=CXr P w) (E:=E) (qual:=qual) (f:=f) (cd:=cd) (A:={A with handled:=none}) S rfl ⟨e0.frames,e0.mod,e0.bs,e0.bsz,e0.funs,e0.frf,e0.hok,e0.bare⟩ hl r x;exact⟨⟨I.ok.mod,I.ok.kind,I.ok.glob,I.ok.blt,I.ok.above,I.ok.inj,I.ok.has,I.ok.cab,hd,Around.frames_deeper e0.frames,I.ok.stk,I.ok.exf,I.ok.bs,I.ok.bsz,I.ok.noex,I.ok.exfs,I.ok.funs,I.ok.frf⟩,
  I.os,I.bare,I.base,I.loc,I.cell,I.free,I.freeC,I.pin,I.hok,I.len⟩
theorem dg_7{c:Bool}{P:Program}{w:World}{k:Nat}{f:Addr}{name qual:Str}{params:Arguments}{body:List Stmt}{scope:Scope}{dV kV doc pm zp ct oc:Value}{an od:Option Addr}
  {osl:Array (Option Value)} {N ps:List Str} {sp:Sp} (lk:K.lookup f=some ⟨oc,od, .func (fnOf name qual params body scope dV kV doc pm an zp ct),osl⟩) (hcd:codeIn K zp qual=true) (S:FnScope N ps scope)
  (len:∀vs H Q E,sp vs H Q E→vs.length=ps.length)
  (zj:∀(A:Around) (outer:List Env) (s:Shared) (H:Hp) (vs:List V) (Q:VK) (E:XK),RoomC c k (A.deeper (envOfC qual scope s.heap.objs.size f zp))→sp vs H Q E→
   ∃t,PSs (cxN c P w K mg base N qual scope f zp A outer s H E) body t∧t {nx:=fun _ H'=>Q .non H',rt:=Q} (p_4 N vs) H):
  FnX P w K mg base c (k + 1) f (fnOf name qual params body scope dV kV doc pm an zp ct) ps sp:=by
 refine⟨len,fun A outer s H args us vs Q E hr e0 hb r hsp=> ?_⟩;have hl:=len _ _ _ _ hsp;have KX:K.In s.heap:=e0.mod.kin.keeps fun b o e=>(e0.bs b o e).1;have lim:s.heap.NoLimit:=e0.mod.nolimit.keeps fun b o e=>(e0.bs b o e).1;have bq:∀y∈ps.zip us,scope.names.lookup y.1=some .local∨(scope.names.lookup y.1=some .cell∧((cellsFrom (s.heap.objs.size + 1) scope.names []).lookup y.1).isSome=true):=fun⟨n,v⟩ hy=>by
  rcases S.par n (List.of_mem_zip hy).1 with q|q
  ·exact .inl q
  ·exact .inr ⟨q,cellsFrom_some _ _ _ (.inl q)⟩
 have dp:A.depth < recursionLimit:=by have:=hr.dp;omega
 refine codeAny_call_function dp (KX _ _ lk) rfl S.co S.gen rfl (codeRec_of KX hcd) (hb _ _ _ _ ?_);refine wpAny_newFunctionEnv_cells S.kind bq fun env he s1 x=> ?_;subst he;refine⟨lim.keeps x.toInCall.keep,codeAny_func ?_⟩;obtain⟨t,ht,hq⟩:=zj A outer s H vs Q E (hr.deeper _) hsp;have I:Inv (cxN c P w K mg base N qual scope f zp A outer s H E) [] (p_4 N vs) H s1:=br_2 S hr.hd e0 hl r x;refine wpAny_mono (ht [] s1 (p_4 N vs) H _ I hq) (fun fl s' hs=> ?_) fun e s' hs=>hs;have fin:∀{σ':Sg} {H':Hp} {v:V} {u:Value},Inv (cxN c P w K mg base N qual scope f zp A outer s H E) [] σ' H' s'→RelV v u→Q v H'→CE outer P w H s Q u s':=
  fun{σ' H' v u} J rv q=>⟨v,H',J.os,J.bare,J.base,J.hok,rv,q⟩
 cases fl with
 |ret u=>
  obtain⟨v,σ',H',J,rv,q⟩:=hs;exact fin J rv q
 |next=>
  obtain⟨σ',H',J,q⟩:=hs;exact fin (v:=V.non) (u:=Value.none) J rfl q
 |brk=>
  obtain⟨_,_,_,q⟩:=hs;exact False.elim q
 |cont=>
  obtain⟨_,_,_,q⟩:=hs;exact False.elim q
theorem Fun.okX{c:Bool}{P:Program}{w:World}{x qual:Str}{st:Stmt}{f:Addr}{N ps:List Str}{k:Nat}{sp:Sp}(F:Fun K x qual st f fd)(S:FnScope N ps (b_5 st))(len:∀vs H Q E,sp vs H Q E→vs.length=ps.length)
  (zj:∀(zp:Value) (A:Around) (outer:List Env) (s:Shared) (H:Hp) (vs:List V) (Q:VK) (E:XK),RoomC c k (A.deeper (envOfC qual (b_5 st) s.heap.objs.size f zp))→sp vs H Q E→
   ∃t,PSs (cxN c P w K mg base N qual (b_5 st) f zp A outer s H E) (f_4 st) t∧t {nx:=fun _ H'=>Q .non H',rt:=Q} (p_4 N vs) H):FnX P w K mg base c (k + 1) f fd ps sp:=by
 obtain⟨oc,od,kV,doc,pm,an,zp,ct,osl,rfl,lk,hcd⟩:=F.ex;exact dg_7 lk hcd S len fun A outer s H vs Q E hr hsp=>zj zp A outer s H vs Q E hr hsp
def Lk(X:Cx)(EX:EXS):Prop:=∀(zd:List (Addr×Obj)) (σ:Sg) (H:Hp) (s:Shared) (e:Value) (s':Shared),Inv X zd σ H s→CXr X.prog X.w X.stack H s (EXE X.K (EX σ)) e s'→X.xe e s'
theorem aa_1:Lk X h_7:=fun zd σ H s e s' I c=>by
 obtain⟨a,C,dx,T,H',_,_,_,_,_,_,_,_,_,_,x,G,_,_,q⟩:=c;exact False.elim q
theorem br_3{c:Bool}{P:Program}{w:World}{N:List Str}{qual:Str}{scope:Scope}{f:Addr}{cd:Value}{A:Around}{outer:List Env}{s:Shared}{E:XK}:
  Lk (cxN c P w K mg base N qual scope f cd A outer s H E) (fun _=>EXof K E):=fun zd σ H s e s' I h=>cd_2 I h fun cls dx H' q=>q.of
def spX(K:Frag)(n:Nat)(F:List D→R W):Sp:=fun vs H Q E=>vs.length=n∧∃G ds,Same G H∧HasL K G vs ds∧Out K (EXof K E) G H (F ds) Q
def eFn(n:Nat)(F:List D→R W)(fa:FA):FE:=fun δ=>(fa δ).bind fun ds=>if ds.length=n then F ds else .no
def FnD(P:Program)(w:World)(K:Frag)(mg:Str→Option Value)(base:Heap)(c:Bool)(x:Str)(k:Nat)(ps:List Str)(F:List D→R W):Prop:=
 ∃f fd,FnX P w K mg base c k f fd ps (spX K ps.length F)∧mg x=some (.ref f)∧keepIn K (.ref f)=true∧Binds K fd ps []
section
variable{X:Cx}{EX:EXS}{e:Expr}{es:List Expr}{fa:FA}{x:Str}{pp pos:Pos}{c:Bool}{k k':Nat}{ps:List Str}{F:List D→R W}
theorem an_1{zd:List (Addr×Obj)}{σ:Sg}{s:Shared}{Q:VK}{vs:List V}{f:Addr}{sp:Sp}(F:FnX X.prog X.w X.K X.mg X.base c k f fd ps sp)(hr:RoomC c k X.A)(hb:Binds X.K fd ps [])(lk:Lk X EX)
  (I:Inv X zd σ H s) (r:Vals vs us) (h:sp vs H Q (EXE X.K (EX σ))):wpAny (model X.prog X.w) X.A (call (.ref f) us) (EP X zd σ Q) X.xe s:=by
 have hl:us.length=ps.length:=by rw [←r.length];exact F.len _ _ _ _ h
 have hb':=hb s us I.kIn (by rw [List.append_nil];exact hl);rw [List.append_nil] at hb';refine wpAny_call (codeAny_mono (F.run X.A X.stack s H ⟨us, []⟩ us vs Q _ hr I.env0 hb' r h) fun r s' hq=> ?_);cases r with
 |error e=>exact lk zd σ H s e s' I hq
 |ok fl=>
  cases fl with
  |ret u=>exact I.after hq
  |next=>exact False.elim hq
  |brk=>exact False.elim hq
  |cont=>exact False.elim hq
theorem b_7(hr:RoomC c k' X.A)(lk:Lk X EX)(h:FnD X.prog X.w X.K X.mg X.base c x k ps F)(ha:AD X EX (e::es) fa)(hk:k≤k':=by decide)(hg:Gl X x:=by rfl)(hdb:(x ==("__debug__" :Str))=false:=by decide)
  (he:starEach (e::es) X.env=(false,eval e X.env)::starEach es X.env:=by rfl) (hpl:(backTo pos (starEach es X.env)).any (·.1)=false:=by rfl):
  ED X EX (.Call (.Name x pp) (e::es) [] pos) (eFn ps.length F fa):=by
 obtain⟨f,fd,ok,hm,kp,hb⟩:=h;intro zd s σ H Q I q;obtain⟨G,δ,g0,s0,o⟩:=q;refine wpAny_Call_Name_kw (q_8 I hg hm ?_ hdb);have ta:tDa X.K EX fa σ H fun vs H1=>spX X.K ps.length F vs H1 Q (EXE X.K (EX σ)):=by
  refine tDa.seq g0 s0 o fun ds vs G' H' _ st r o'=> ?_
  split at o'
  ·rename_i hl;refine⟨by rw [r.length];exact hl,G',ds,st.gh,r, ?_⟩;cases q:F ds with
   |ok w=>rw [q] at o';exact o'
   |ex x=>rw [q] at o';exact EXof.in o'
   |no=>rw [q] at o';exact o'.elim
  ·exact o'.elim
 refine callWith_K (h₀:=X.base) I.ok.mod.kin kp (thn (ha pos zd s σ H _ I ta) fun us s1 ⟨vs,H1,I1,r,q⟩=>⟨I1.kIn, ?_⟩) he hpl;exact an_1 ok (hr.mono hk) hb lk I1 r q
end
inductive Sl where
 |no|sh (d:D)|ow (d:D)|tr (t:Tn)|lk (d:D)|lt (t:Tn)
abbrev SE:=List Sl
inductive Fl where
 |nx (Δ:SE)|rt (w:W)|bk (Δ:SE)|ct (Δ:SE)|ex (x:Xn) (Δ:SE)|rv (d:D) (Δ:SE)|no
abbrev FS:=SE→Fl
def Sl.pub:Sl→Option D
 | .sh d=>some d
 |_=>none
def Sl.any:Sl→Option D
 | .sh d=>some d
 | .ow d=>some d
 | .tr t=>some t.d
 | .lk d=>some d
 | .lt t=>some t.d
 | .no=>none
def Sl.give:Sl→Sl
 | .ow d=> .sh d
 | .tr t=> .sh t.d
 |s=>s
def Sl.own:Sl→Option Tn
 | .ow d=>some (Tn.of d)
 | .tr t=>some t
 | .lk d=>some (Tn.of d)
 | .lt t=>some t
 |_=>none
def vsh(Δ:SE):DE:=Δ.map Sl.pub
def vall(Δ:SE):DE:=Δ.map Sl.any
def gall(Δ:SE):SE:=Δ.map Sl.give
abbrev OS:=Nat→AS
structure HB where
 h:Hp
 b:Nat→Addr
structure Ev(K:Frag)(H0:HB)(G0 G H:Hp)(σ:Sg)(Δ:SE)(A:OS):Prop where
 st:Step G0 H0.h G H
 len:σ.length=Δ.length
 sh:∀(i:Nat) (d:D),Δ[i]? =some (.sh d)→∃v,σ[i]? =some (some v)∧Has K G v d
 ow:∀(i:Nat) (s:Sl) (t:Tn),Δ[i]? =some s→s.own=some t→∃v,σ[i]? =some (some v)∧Ow K G H v t (A i)
 out:∀(i:Nat) (a:Addr),A i a→G a=none∧H0.h a=none∧H a≠none
 dj:∀(i j:Nat) (a:Addr),A i a→A j a→i=j
 lk:∀(i:Nat) (d:D),Δ[i]? =some (.lk d)→σ[i]? =some (some (.ref (H0.b i)))
 lt:∀(i:Nat) (t:Tn),Δ[i]? =some (.lt t)→σ[i]? =some (some (.ref (H0.b i)))
def x_7(G H:Hp)(A:OS):Hp:=e_7 G H fun b=>∃i,A i b
structure MStep(S:AS)(G H G' H':Hp):Prop where
 hh:∀b o,¬S b→H b=some o→H' b=some o
 al:∀b,H b≠none→H' b≠none
 gh:Same G' H'
 gg:Same G G'
 nw:∀b,G b=none→H b≠none→G' b=none
structure MStep2(S:AS)(G H G' H':Hp):Prop where
 hh:∀b o,¬S b→H b=some o→H' b=some o
 gh:Same G' H'
 gg:Same G G'
 nw:∀b,¬S b→G b=none→H b≠none→G' b=none
theorem MStep.weak{S:AS}{G H G' H':Hp}(m:MStep S G H G' H'):MStep2 S G H G' H':=⟨m.hh,m.gh,m.gg,fun b _=>m.nw b⟩
theorem Step.m{S:AS}{G H G' H':Hp}(s:Step G H G' H'):MStep S G H G' H':=⟨fun b o _ q=>s.hh b o q,fun b n z=>n (s.hh.free z),s.gh,s.gg,s.nw⟩
theorem MStep.andThen{S:AS}{G H G1 H1 G2 H2:Hp}(a:MStep S G H G1 H1)(b:Step G1 H1 G2 H2):MStep S G H G2 H2:=
 ⟨fun c o n q=>b.hh c o (a.hh c o n q),fun c n z=>a.al c n (b.hh.free z),b.gh,a.gg.trans b.gg,fun c e n=>b.nw c (a.nw c e n) (a.al c n)⟩
theorem MStep.write{S:AS}{G H:Hp}(g:Same G H){a:Addr}(hs:S a)(n:G a=none)(o:HO):MStep S G H G (L2.upd H a o):=
 ⟨fun b o' nb q=>by rw [a_5 (fun z=>nb (by rw [z];exact hs))];exact q,fun b nb=>by
  by_cases z:b=a
  ·subst z;rw [a_9];simp
  ·rw [a_5 z];exact nb,fun b o' q=>by
  by_cases z:b=a
  ·subst z;rw [n] at q;cases q
  ·rw [a_5 z];exact g b o' q,Same.refl _,fun _ e _=>e⟩
def setA(A:OS)(i:Nat)(S:AS):OS:=fun j=>if j=i then S else A j
theorem j_1{A:OS}{i:Nat}{S:AS}:setA A i S i=S:=if_pos rfl
theorem i_7{A:OS}{i j:Nat}{S:AS}(h:j≠i):setA A i S j=A j:=if_neg h
section
variable{K:Frag}{H0:HB}{G0 G H G' H':Hp}{σ:Sg}{Δ:SE}{A:OS}
theorem Ev.gsh(E:Ev K H0 G0 G H σ Δ A):HasS K G σ (vsh Δ):=⟨by rw [E.len];unfold vsh;rw [List.length_map],fun i d q=>by
 unfold vsh at q;rw [List.getElem?_map] at q;cases e:Δ[i]? with
 |none=>rw [e] at q;cases q
 |some z=>
  rw [e] at q;cases z with
  |sh d'=>cases q;exact E.sh i d e
  |_=>cases q⟩
theorem Ev.aH(E:Ev K H0 G0 G H σ Δ A):Same (x_7 G H A) H:=fun b o q=>by
 unfold x_7 e_7 at q
 split at q
 ·exact q
 ·exact E.st.gh b o q
theorem Ev.aG(E:Ev K H0 G0 G H σ Δ A):Same G (x_7 G H A):=fun b o q=>by
 unfold x_7 e_7
 split
 ·rename_i hb;obtain⟨i,hb⟩:=hb;rw [(E.out i b hb).1] at q;cases q
 ·exact q
theorem Ev.aStep(E:Ev K H0 G0 G H σ Δ A):Step G0 H0.h (x_7 G H A) H:=
 ⟨E.st.hh,E.aH,E.st.gg.trans E.aG,fun b n z=>by
  unfold x_7 e_7
  split
  ·rename_i hb;obtain⟨i,hb⟩:=hb;exact absurd (E.out i b hb).2.1 z
  ·exact E.st.nw b n z⟩
theorem Ev.aIn{A:OS}{G H:Hp}{i:Nat}{b:Addr}{o:HO}(hb:A i b)(q:H b=some o):x_7 G H A b=some o:=by
 unfold x_7 e_7;rw [if_pos ⟨i,hb⟩];exact q
theorem Ev.gall(E:Ev K H0 G0 G H σ Δ A):HasS K (x_7 G H A) σ (vall Δ):=⟨by rw [E.len];unfold vall;rw [List.length_map],fun i d q=>by
 unfold vall at q;rw [List.getElem?_map] at q;cases e:Δ[i]? with
 |none=>rw [e] at q;cases q
 |some z=>
  rw [e] at q;cases z with
  |sh d'=>
   cases q;obtain⟨v,e1,r⟩:=E.sh i d e;exact⟨v,e1,r.mono E.aG⟩
  |ow d'=>
   cases q;obtain⟨v,e1,t⟩:=E.ow i _ _ e rfl;have r:=t.has E.aG fun b o hb q=>Ev.aIn hb q;rw [Tn.of_d] at r;exact⟨v,e1,r⟩
  |tr t'=>
   cases q;obtain⟨v,e1,t⟩:=E.ow i _ _ e rfl;exact⟨v,e1,t.has E.aG fun b o hb q=>Ev.aIn hb q⟩
  |lk d'=>
   cases q;obtain⟨v,e1,t⟩:=E.ow i _ _ e rfl;have r:=t.has E.aG fun b o hb q=>Ev.aIn hb q;rw [Tn.of_d] at r;exact⟨v,e1,r⟩
  |lt t'=>
   cases q;obtain⟨v,e1,t⟩:=E.ow i _ _ e rfl;exact⟨v,e1,t.has E.aG fun b o hb q=>Ev.aIn hb q⟩
  |no=>cases q⟩
theorem Ev.grow(E:Ev K H0 G0 G H σ Δ A)(s:Step G H G' H'):Ev K H0 G0 G' H' σ Δ A:=
 ⟨E.st.trans s,E.len,fun i d e=>let⟨v,e1,r⟩:=E.sh i d e;⟨v,e1,r.mono s.gg⟩,fun i z d e z'=>let⟨v,e1,t⟩:=E.ow i z d e z';⟨v,e1,t.mono s.gg (fun b o _ q=>s.hh b o q) fun _ q=>q⟩,
  fun i a ha=>let⟨h1,h2,h3⟩:=E.out i a ha;⟨s.nw a h1 h3,h2,fun z=>h3 (s.hh.free z)⟩,E.dj,E.lk,E.lt⟩
theorem Ev.keep(E:Ev K H0 G0 G H σ Δ A)(s:Same H H'):Ev K H0 G0 G H' σ Δ A:=
 E.grow ⟨s,E.st.gh.trans s,Same.refl _,fun _ n _=>n⟩
theorem i_1{α:Type}{l:List α}{i j:Nat}{x y:α}(h:(l.set i x)[j]? =some y):(i=j∧y=x)∨(i≠j∧l[j]? =some y):=by
 by_cases e:i=j
 ·subst e;rw [List.getElem?_set] at h;simp only [if_true] at h
  split at h
  ·exact .inl ⟨rfl,(Option.some.inj h).symm⟩
  ·cases h
 ·rw [List.getElem?_set_ne e] at h;exact .inr ⟨e,h⟩
theorem br_4{α:Type}{l:List α}{i:Nat}{x y:α}(h:(l.set i x)[i]? =some y):i < l.length:=by
 by_cases hh:i < l.length
 ·exact hh
 ·rw [List.getElem?_eq_none (by rw [List.length_set];omega)] at h;cases h
theorem Ev.put(E:Ev K H0 G0 G H σ Δ A){i:Nat}{d:D}(r:Has K G v d):Ev K H0 G0 G H (σ.set i (some v)) (Δ.set i (.sh d)) A:=by
 refine⟨E.st,by rw [List.length_set,List.length_set];exact E.len,fun j d' e=> ?_,fun j z d' e zo=> ?_,E.out,E.dj,fun j d' e=> ?_,fun j d' e=> ?_⟩
 ·rcases i_1 e with⟨rfl,q⟩|⟨n,q⟩
  ·cases q;exact⟨v,by rw [List.getElem?_set_self (by rw [E.len];exact br_4 e)],r⟩
  ·obtain⟨v',e1,r'⟩:=E.sh j d' q;exact⟨v',by rw [List.getElem?_set_ne n];exact e1,r'⟩
 ·rcases i_1 e with⟨rfl,q⟩|⟨n,q⟩
  ·subst q;cases zo
  ·obtain⟨v',e1,t⟩:=E.ow j z d' q zo;exact⟨v',by rw [List.getElem?_set_ne n];exact e1,t⟩
 ·rcases i_1 e with⟨rfl,q⟩|⟨n,q⟩
  ·cases q
  ·rw [List.getElem?_set_ne n];exact E.lk j d' q
 ·rcases i_1 e with⟨rfl,q⟩|⟨n,q⟩
  ·cases q
  ·rw [List.getElem?_set_ne n];exact E.lt j d' q
theorem Ev.putO(E:Ev K H0 G0 G H σ Δ A){i:Nat}{z:Sl}{d:Tn}{S:AS}(fr:∀a,S a→H0.h a=none∧G a=none∧H a≠none)(zo:z.own=some d)(zl:∀d,z≠ .lk d)(t:Ow K G H v d S)(nw:∀j a,A j a→¬S a)(zt:∀d,z= .lt d→v= .ref (H0.b i):=by intro _ z;cases z):
  Ev K H0 G0 G H (σ.set i (some v)) (Δ.set i z) (setA A i S):=by
 refine⟨E.st,by rw [List.length_set,List.length_set];exact E.len,fun j d' e'=> ?_,fun j z' d' e' zo'=> ?_,fun j a ha=> ?_,fun j j' a h1 h2=> ?_,fun j d' e'=> ?_,fun j d' e'=> ?_⟩
 ·rcases i_1 e' with⟨rfl,q⟩|⟨nn,q⟩
  ·subst q;cases zo
  ·obtain⟨v',e1,r'⟩:=E.sh j d' q;exact⟨v',by rw [List.getElem?_set_ne nn];exact e1,r'⟩
 ·rcases i_1 e' with⟨rfl,q⟩|⟨nn,q⟩
  ·subst q;rw [zo] at zo';cases zo';exact⟨v,by rw [List.getElem?_set_self (by rw [E.len];exact br_4 e')],by rw [j_1];exact t⟩
  ·obtain⟨v',e1,x⟩:=E.ow j z' d' q zo';exact⟨v',by rw [List.getElem?_set_ne nn];exact e1,by rw [i_7 (Ne.symm nn)];exact x⟩
 ·by_cases z:j=i
  ·subst z;rw [j_1] at ha;obtain⟨a1,a2,a3⟩:=fr a ha;exact⟨a2,a1,a3⟩
  ·rw [i_7 z] at ha;exact E.out j a ha
 ·by_cases z:j=i
  ·by_cases z':j'=i
   ·rw [z,z']
   ·rw [z,j_1] at h1;rw [i_7 z'] at h2;exact absurd h1 (nw j' a h2)
  ·by_cases z':j'=i
   ·rw [i_7 z] at h1;rw [z',j_1] at h2;exact absurd h2 (nw j a h1)
   ·rw [i_7 z] at h1;rw [i_7 z'] at h2;exact E.dj j j' a h1 h2
 ·rcases i_1 e' with⟨rfl,q⟩|⟨nn,q⟩
  ·exact absurd q.symm (zl d')
  ·rw [List.getElem?_set_ne nn];exact E.lk j d' q
 ·rcases i_1 e' with⟨rfl,q⟩|⟨nn,q⟩
  ·rw [List.getElem?_set_self (by rw [E.len];exact br_4 e'),zt d' q.symm]
  ·rw [List.getElem?_set_ne nn];exact E.lt j d' q
theorem Ev.step2(E:Ev K H0 G0 G H σ Δ A){i:Nat}{z:Sl}{d':Tn}{S:AS}(zo:z.own=some d')(zl:∀d,z≠ .lk d)(zt:∀d,z= .lt d→σ[i]? =some (some (.ref (H0.b i))))(ms:MStep2 (A i) G H G' H')(s:σ[i]? =some (some v))(fr:∀a,S a→(A i a∨H a=none)∧G' a=none∧H' a≠none)(t:Ow K G' H' v d' S):
  Ev K H0 G0 G' H' σ (Δ.set i z) (setA A i S):=by
 have st:Step G0 H0.h G' H':=⟨fun b o q=>ms.hh b o (fun hb=>by rw [(E.out i b hb).2.1] at q;cases q) (E.st.hh b o q),ms.gh,E.st.gg.trans ms.gg,
  fun b n z=>ms.nw b (fun hb=>z (E.out i b hb).2.1) (E.st.nw b n z) fun q=>z (E.st.hh.free q)⟩
 refine⟨st,by rw [List.length_set];exact E.len,fun j d2 e'=> ?_,fun j z' d2 e' zo'=> ?_,fun j a ha=> ?_,fun j j' a h1 h2=> ?_,fun j d2 e'=> ?_,fun j d2 e'=> ?_⟩
 ·rcases i_1 e' with⟨rfl,q⟩|⟨nn,q⟩
  ·subst q;cases zo
  ·obtain⟨v',e1,r'⟩:=E.sh j d2 q;exact⟨v',e1,r'.mono ms.gg⟩
 ·rcases i_1 e' with⟨rfl,q⟩|⟨nn,q⟩
  ·subst q;rw [zo] at zo';cases zo';exact⟨v,s,by rw [j_1];exact t⟩
  ·obtain⟨v',e1,x⟩:=E.ow j z' d2 q zo';rw [i_7 (Ne.symm nn)];exact⟨v',e1,x.mono ms.gg (fun b o hb q=>ms.hh b o (fun hi=>nn (E.dj i j b hi hb)) q) fun _ q=>q⟩
 ·by_cases z:j=i
  ·subst z;rw [j_1] at ha;obtain⟨a1,a2,a3⟩:=fr a ha;refine⟨a2, ?_,a3⟩;rcases a1 with a1|a1
   ·exact(E.out j a a1).2.1
   ·exact E.st.hh.free a1
  ·rw [i_7 z] at ha;obtain⟨h1,h2,h3⟩:=E.out j a ha;have hn:¬A i a:=fun hb=>z (E.dj j i a ha hb);refine⟨ms.nw a hn h1 h3,h2,fun q=> ?_⟩;cases e:H a with
   |none=>exact h3 e
   |some o=>rw [ms.hh a o hn e] at q;cases q
 ·have own:∀k,k≠i→A k a→¬S a:=fun k nk hk hs=>by
   rcases(fr a hs).1 with q|q
   ·exact nk (E.dj k i a hk q)
   ·exact(E.out k a hk).2.2 q
  by_cases z:j=i
  ·by_cases z':j'=i
   ·rw [z,z']
   ·rw [z,j_1] at h1;rw [i_7 z'] at h2;exact absurd h1 (own j' z' h2)
  ·by_cases z':j'=i
   ·rw [i_7 z] at h1;rw [z',j_1] at h2;exact absurd h2 (own j z h1)
   ·rw [i_7 z] at h1;rw [i_7 z'] at h2;exact E.dj j j' a h1 h2
 ·rcases i_1 e' with⟨rfl,q⟩|⟨nn,q⟩
  ·exact absurd q.symm (zl d2)
  ·exact E.lk j d2 q
 ·rcases i_1 e' with⟨rfl,q⟩|⟨nn,q⟩
  ·exact zt d2 q.symm
  ·exact E.lt j d2 q
theorem Ev.step(E:Ev K H0 G0 G H σ Δ A){i:Nat}{z:Sl}{d':Tn}{S:AS}(zo:z.own=some d')(zl:∀d,z≠ .lk d)(ms:MStep (A i) G H G' H')(s:σ[i]? =some (some v))(fr:∀a,S a→(A i a∨H a=none)∧G' a=none∧H' a≠none)(t:Ow K G' H' v d' S)(zt:∀d,z≠ .lt d:=by intro _ z;cases z):
  Ev K H0 G0 G' H' σ (Δ.set i z) (setA A i S):=E.step2 zo zl (fun d e=>absurd e (zt d)) ms.weak s fr t
theorem Ev.writeL(E:Ev K H0 G0 G H σ Δ A){i:Nat}{a:Addr}{vs:List V}{ds:List D}(s:σ[i]? =some (some (.ref a)))(m:A i a)(r:HasL K G vs ds):Ev K H0 G0 G (upd H a (.lst vs)) σ (Δ.set i (.ow (.lst ds))) (setA A i (A i)):=
 have ms:=MStep.write E.st.gh m (E.out i a m).1 (.lst vs)
 E.step rfl (fun _ z=>by cases z) ms s (fun b hb=>⟨.inl hb,(E.out i b hb).1,ms.al b (E.out i b hb).2.2⟩) (Ow.list a_9 m r)
theorem Ev.writeD(E:Ev K H0 G0 G H σ Δ A){i:Nat}{a:Addr}{kvs:List (Key×V)}{kds:List (Key×D)}(s:σ[i]? =some (some (.ref a)))(m:A i a)(hk:kvs.map (·.1)=kds.map (·.1))(r:HasL K G (kvs.map (·.2)) (kds.map (·.2))):Ev K H0 G0 G (upd H a (.dK kvs)) σ (Δ.set i (.ow (.dic kds))) (setA A i (A i)):=
 have ms:=MStep.write E.st.gh m (E.out i a m).1 (.dK kvs)
 E.step rfl (fun _ z=>by cases z) ms s (fun b hb=>⟨.inl hb,(E.out i b hb).1,ms.al b (E.out i b hb).2.2⟩) (Ow.dict a_9 hk m r)
end
def give1(Δ:SE)(j:Nat):SE:=match Δ[j]? with
 |some s=>Δ.set j s.give
 |none=>Δ
def gsome(js:List Nat)(Δ:SE):SE:=js.foldl give1 Δ
section
variable{K:Frag}{H0:HB}{G0 G H:Hp}{σ:Sg}{Δ:SE}{A:OS}
theorem u_5{α:Type}{l:List α}{j:Nat}{x:α}(h:l[j]? =some x):l.set j x=l:=by
 apply List.ext_getElem?;intro i
 by_cases e:j=i
 ·subst e;have hlt:j < l.length:=(List.getElem?_eq_some_iff.mp h).1;rw [List.getElem?_set_self hlt,h]
 ·rw [List.getElem?_set_ne e]
theorem Ev.give3(E:Ev K H0 G0 G H σ Δ A){j:Nat}{z:Sl}{t:Tn}(e:Δ[j]? =some z)(zo:z.own=some t):Same G (e_7 G H (A j))∧Ev K H0 G0 (e_7 G H (A j)) H σ (Δ.set j (.sh t.d)) (setA A j fun _=>False):=by
   obtain⟨v,s1,t⟩:=E.ow j z t e zo;have sg:Same G (e_7 G H (A j)):=fun b o q=>by
    unfold e_7
    split
    ·rename_i hb;rw [(E.out j b hb).1] at q;cases q
    ·exact q
   have gh:Same (e_7 G H (A j)) H:=fun b o q=>by
    unfold e_7 at q
    split at q
    ·exact q
    ·exact E.st.gh b o q
   refine⟨sg,⟨E.st.hh,gh,E.st.gg.trans sg,fun b h1 h2=> ?_⟩,by rw [List.length_set];exact E.len,fun i d' e'=> ?_,fun i z' d' e' zo'=> ?_,fun i b hb=> ?_,fun i i' b h1 h2=> ?_,fun i d' e'=> ?_,fun i d' e'=> ?_⟩
   ·unfold e_7
    split
    ·rename_i hb;exact absurd (E.out j b hb).2.1 h2
    ·exact E.st.nw b h1 h2
   ·rcases i_1 e' with⟨rfl,q⟩|⟨n,q⟩
    ·cases q;refine⟨v,s1,t.has sg fun b o hb q=> ?_⟩;unfold e_7;rw [if_pos hb];exact q
    ·obtain⟨v',e1,r⟩:=E.sh i d' q;exact⟨v',e1,r.mono sg⟩
   ·rcases i_1 e' with⟨rfl,q⟩|⟨n,q⟩
    ·subst q;cases zo'
    ·obtain⟨v',e1,t'⟩:=E.ow i z' d' q zo';rw [i_7 (Ne.symm n)];exact⟨v',e1,t'.mono sg (fun b o _ q=>q) fun _ q=>q⟩
   ·by_cases z:i=j
    ·subst z;rw [j_1] at hb;exact hb.elim
    ·rw [i_7 z] at hb;obtain⟨k1,k2,k3⟩:=E.out i b hb;refine⟨?_,k2,k3⟩;unfold e_7;rw [if_neg fun q=>z (E.dj i j b hb q)];exact k1
   ·by_cases z:i=j
    ·subst z;rw [j_1] at h1;exact h1.elim
    ·by_cases z':i'=j
     ·subst z';rw [j_1] at h2;exact h2.elim
     ·rw [i_7 z] at h1;rw [i_7 z'] at h2;exact E.dj i i' b h1 h2
   ·rcases i_1 e' with⟨rfl,q⟩|⟨n,q⟩
    ·cases q
    ·exact E.lk i d' q
   ·rcases i_1 e' with⟨rfl,q⟩|⟨n,q⟩
    ·cases q
    ·exact E.lt i d' q
theorem Ev.give2(E:Ev K H0 G0 G H σ Δ A){j:Nat}{z:Sl}{t:Tn}(e:Δ[j]? =some z)(zo:z.own=some t):∃G' A',Same G G'∧Ev K H0 G0 G' H σ (Δ.set j (.sh t.d)) A':=⟨_,_,E.give3 e zo⟩
theorem Ev.give1(E:Ev K H0 G0 G H σ Δ A)(j:Nat):∃G' A',Same G G'∧Ev K H0 G0 G' H σ (L3.give1 Δ j) A':=by
 unfold L3.give1;cases e:Δ[j]? with
 |none=>exact⟨G,A,Same.refl _,E⟩
 |some s=>
  cases s with
  |no=>exact⟨G,A,Same.refl _,by show Ev K H0 G0 G H σ (Δ.set j .no) A;rw [u_5 e];exact E⟩
  |sh d=>exact⟨G,A,Same.refl _,by show Ev K H0 G0 G H σ (Δ.set j (.sh d)) A;rw [u_5 e];exact E⟩
  |ow d=>
   have:=E.give2 e (t:=Tn.of d) rfl;rw [Tn.of_d] at this;exact this
  |tr t=>exact E.give2 e rfl
  |lk d=>exact⟨G,A,Same.refl _,by show Ev K H0 G0 G H σ (Δ.set j (.lk d)) A;rw [u_5 e];exact E⟩
  |lt t=>exact⟨G,A,Same.refl _,by show Ev K H0 G0 G H σ (Δ.set j (.lt t)) A;rw [u_5 e];exact E⟩
theorem Ev.gsome:∀(js:List Nat) {G:Hp} {Δ:SE} {A:OS},Ev K H0 G0 G H σ Δ A→∃G' A',Same G G'∧Ev K H0 G0 G' H σ (L3.gsome js Δ) A'
 | [],G,Δ,A,E=>⟨G,A,Same.refl _,E⟩
 |j::js,G,Δ,A,E=>by
  obtain⟨G1,A1,s1,E1⟩:=E.give1 j;obtain⟨G2,A2,s2,E2⟩:=Ev.gsome js E1;exact⟨G2,A2,s1.trans s2,E2⟩
end
def Fin(K:Frag)(EX:EXS)(H0:HB)(G0 G1:Hp)(D:Ends):Fl→Prop
 | .nx Δ=>∀σ G H O,Ev K H0 G0 G H σ Δ O→Same G1 G→D.nx σ H
 | .bk Δ=>∀σ G H O,Ev K H0 G0 G H σ Δ O→Same G1 G→D.bk σ H
 | .ct Δ=>∀σ G H O,Ev K H0 G0 G H σ Δ O→Same G1 G→D.ct σ H
 | .rt w=>WP K G0 H0.h w D.rt
 | .rv d Δ=>∀v σ G H O,Ev K H0 G0 G H σ Δ O→Same G1 G→Has K G v d→D.rt v H
 | .ex x Δ=>∀σ G H O,Ev K H0 G0 G H σ Δ O→Same G1 G→(EX σ).p x G H
 | .no=>False
theorem Fin.mono{EX:EXS}{H0:HB}{G0 G1 G2:Hp}{D:Ends}{r:Fl}(s:Same G1 G2)(h:Fin K EX H0 G0 G1 D r):Fin K EX H0 G0 G2 D r:=by
 cases r with
 |nx Δ=>exact fun σ G H O E q=>h σ G H O E (s.trans q)
 |bk Δ=>exact fun σ G H O E q=>h σ G H O E (s.trans q)
 |ct Δ=>exact fun σ G H O E q=>h σ G H O E (s.trans q)
 |rt w=>exact h
 |rv d Δ=>exact fun v σ G H O E q=>h v σ G H O E (s.trans q)
 |ex x Δ=>exact fun σ G H O E q=>h σ G H O E (s.trans q)
 |no=>exact h
def tS(K:Frag)(EX:EXS)(g:FS):TS:=fun D σ H=>∃H0 G0 G Δ O,Ev K H0 G0 G H σ Δ O∧Fin K EX H0 G0 G D (g Δ)
abbrev SD(X:Cx)(EX:EXS)(st:Stmt)(g:FS):Prop:=PS X st (tS X.K EX g)
abbrev BD(X:Cx)(EX:EXS)(st:List Stmt)(g:FS):Prop:=PSs X st (tS X.K EX g)
section
variable{X:Cx}{EX:EXS}{st:Stmt}{sts:List Stmt}{g h:FS}{pos:Pos}{e:Expr}{f:FE}{p:FT}
def sNil:FS:=fun Δ=> .nx Δ
def sSeq(g h:FS):FS:=fun Δ=>match g Δ with
 | .nx Δ'=>h Δ'
 |r=>r
theorem e_8:BD X EX [] sNil:=PSs.imp cs_9 fun D σ H ⟨H0,G0,G,Δ,O,E,q⟩=>q σ G H O E (Same.refl _)
theorem b_0(h1:SD X EX st g):BD X EX [st] g:=ba_6 h1
theorem a_4(h1:SD X EX st g)(h2:BD X EX sts h):BD X EX (st::sts) (sSeq g h):=
 PSs.imp (ci_3 h1 h2) fun D σ H ⟨H0,G0,G,Δ,O,E,q⟩=>by
  refine⟨H0,G0,G,Δ,O,E, ?_⟩;unfold sSeq at q;cases e:g Δ with
  |nx Δ'=>rw [e] at q;exact fun σ' G' H' O' E' sm=>⟨H0,G0,G',Δ',O',E',Fin.mono sm q⟩
  |bk Δ'=>rw [e] at q;exact q
  |ct Δ'=>rw [e] at q;exact q
  |rt w=>rw [e] at q;exact q
  |rv d Δ'=>rw [e] at q;exact q
  |ex x Δ'=>rw [e] at q;exact q
  |no=>rw [e] at q;exact q
def exG(js:List Nat)(f:FE)(Δ:SE):Fl:=match f (vsh (gsome js Δ)) with
 | .ex x=> .ex x (gsome js Δ)
 |_=> .no
def exT(js:List Nat)(p:FT)(Δ:SE):Fl:=match p (vsh (gsome js Δ)) with
 | .ex x=> .ex x (gsome js Δ)
 |_=> .no
theorem bi_2{H0:HB}{G0 G G1 H:Hp}{σ:Sg}{Δ:SE}{O:OS}{D:Ends}{js:List Nat}{Q:VK}(E:Ev K H0 G0 G H σ Δ O)(sg:Same G1 G)(q:Fin K EX H0 G0 G1 D (exG js f Δ)):tD K EX f σ H Q:=by
 obtain⟨G',O',s',E'⟩:=E.gsome js;refine⟨G',vsh (gsome js Δ),E'.st.gh,E'.gsh, ?_⟩;unfold exG at q;cases e:f (vsh (gsome js Δ)) with
 |ok w=>rw [e] at q;exact q.elim
 |ex x=>rw [e] at q;exact q σ G' H O' E' (sg.trans s')
 |no=>rw [e] at q;exact q.elim
theorem cl_3{H0:HB}{G0 G G1 H:Hp}{σ:Sg}{Δ:SE}{O:OS}{D:Ends}{js:List Nat}{Q:Bool→Hp→Prop}(E:Ev K H0 G0 G H σ Δ O)(sg:Same G1 G)(q:Fin K EX H0 G0 G1 D (exT js p Δ)):tDt K EX p σ H Q:=by
 obtain⟨G',O',s',E'⟩:=E.gsome js;refine⟨G',vsh (gsome js Δ),E'.st.gh,E'.gsh, ?_⟩;unfold exT at q;cases e:p (vsh (gsome js Δ)) with
 |ok w=>rw [e] at q;exact q.elim
 |ex x=>rw [e] at q;exact q σ G' H O' E' (sg.trans s')
 |no=>rw [e] at q;exact q.elim
def sRet(js:List Nat)(f:FE):FS:=fun Δ=>match f (vall Δ) with
 | .ok w=> .rt w
 | .ex _=>exG js f Δ
 | .no=> .no
theorem d_0(js:List Nat)(he:ED X EX e f):SD X EX (.Return (some e) pos) (sRet js f):=
 PS.imp (bp_2 he) fun D σ H ⟨H0,G0,G,Δ,O,E,q⟩=>by
  unfold sRet at q;cases e1:f (vall Δ) with
  |ok w=>
   rw [e1] at q;exact⟨x_7 G H O,vall Δ,E.aH,E.gall,by rw [e1];exact WP.mono E.aStep q⟩
  |ex x=>rw [e1] at q;exact bi_2 E (Same.refl _) q
  |no=>rw [e1] at q;exact q.elim
def sRetV(i:Nat):FS:=fun Δ=>match Δ[i]? with
 |some (.sh d)=> .rt (.sh d)
 |some (.ow d)=> .rt (.ow d)
 |some (.tr t)=> .rt (.tr t)
 |_=> .no
theorem aa_2(i:Nat){x:Str}{pos pos':Pos}(hN:X.N[i]? =some x:=by rfl)(hv:Vis X.env.scope x:=by first|exact Or.inl rfl|exact Or.inr (Or.inl rfl)|exact Or.inr (Or.inr rfl))(hd:(x ==("__debug__" :Str))=false:=by decide)
  (hcd:(x ==("__classdict__" :Str))=false:=by decide):SD X EX (.Return (some (.Name x pos)) pos') (sRetV i):=
 PS.imp (bp_2 (j_7 hN hv hd hcd)) fun D σ H ⟨H0,G0,G,Δ,O,E,q⟩=>by
  unfold sRetV at q
  split at q
  ·rename_i d e;obtain⟨v,e1,r⟩:=E.sh i d e;exact⟨v,e1,(WP.mono (w:= .sh d) (Q:=D.rt) E.st q).use E.st.gh r⟩
  ·rename_i d e;obtain⟨v,e1,t⟩:=E.ow i _ _ e rfl;exact⟨v,e1,q v (O i) G H E.st (fun a ha=>let⟨h1,h2,h3⟩:=E.out i a ha;⟨h2,h1,h3⟩) t⟩
  ·rename_i d e;obtain⟨v,e1,t⟩:=E.ow i _ _ e rfl;exact⟨v,e1,q v (O i) G H E.st (fun a ha=>let⟨h1,h2,h3⟩:=E.out i a ha;⟨h2,h1,h3⟩) t⟩
  ·exact q.elim
def sPut(i:Nat)(Δ:SE):R W→Fl
 | .ok (.sh d)=> .nx (Δ.set i (.sh d))
 | .ok (.ow d)=> .nx (Δ.set i (.ow d))
 | .ok (.tr t)=> .nx (Δ.set i (.tr t))
 | .ex x=> .ex x Δ
 | .no=> .no
def sSet(i:Nat)(js:List Nat)(f:FE):FS:=fun Δ=>match f (vsh Δ) with
 | .ok (.sh d)=> .nx (Δ.set i (.sh d))
 | .ok (.ow d)=> .nx (Δ.set i (.ow d))
 | .ok (.tr t)=> .nx (Δ.set i (.tr t))
 | .ex x=> .ex x Δ
 | .no=>match f (vall Δ) with
  | .ex _=>sPut i (gsome js Δ) (f (vsh (gsome js Δ)))
  | .no=> .no
  | .ok w=>if flatD w.d=true then .nx (Δ.set i (.sh w.d)) else sPut i (gsome js Δ) (f (vsh (gsome js Δ)))
theorem an_2{H0:HB}{G0 G G1 H:Hp}{σ:Sg}{Δ:SE}{O:OS}{D:Ends}{i:Nat}(E:Ev K H0 G0 G H σ Δ O)(sg:Same G1 G)
  (q:Fin K EX H0 G0 G1 D (sPut i Δ (f (vsh Δ)))):tAsg (tD K EX f) (bv_5 i) D σ H:=by
 refine⟨G,vsh Δ,E.st.gh,E.gsh, ?_⟩;unfold sPut at q;cases e1:f (vsh Δ) with
 |ok w=>
  rw [e1] at q;cases w with
  |sh d=>exact fun v G' H' st r=>q _ G' H' O ((E.grow st).put r) (sg.trans st.gg)
  |ow d=>
   intro v S G' H' st fr t;exact q _ G' H' _ ((E.grow st).putO (fun a ha=>⟨E.st.hh.free (fr a ha).1,(fr a ha).2⟩) rfl (fun _ z=>by cases z) t fun j a hj hs=>(E.out j a hj).2.2 (fr a hs).1) (sg.trans st.gg)
  |tr d=>
   intro v S G' H' st fr t;exact q _ G' H' _ ((E.grow st).putO (fun a ha=>⟨E.st.hh.free (fr a ha).1,(fr a ha).2⟩) rfl (fun _ z=>by cases z) t fun j a hj hs=>(E.out j a hj).2.2 (fr a hs).1) (sg.trans st.gg)
 |ex x=>rw [e1] at q;exact q σ G H O E sg
 |no=>rw [e1] at q;exact q
theorem bi_3{D:Ends}{σ:Sg}{i:Nat}{js:List Nat}(q:tS K EX (sSet i js f) D σ H):tAsg (tD K EX f) (bv_5 i) D σ H:=by
 obtain⟨H0,G0,G,Δ,O,E,q⟩:=q;unfold sSet at q;cases e1:f (vsh Δ) with
 |ok w=>
  rw [e1] at q;refine an_2 E (Same.refl _) ?_;unfold sPut;rw [e1];cases w <;> exact q
 |ex x=>
  rw [e1] at q;refine an_2 E (Same.refl _) ?_;unfold sPut;rw [e1];exact q
 |no=>
  rw [e1] at q;cases e2:f (vall Δ) with
  |ok w=>
   simp only [e2] at q
   split at q
   ·rename_i fl;refine⟨x_7 G H O,vall Δ,E.aH,E.gall, ?_⟩;rw [e2];exact WP.intro fun v G' H' st r=>q _ G H' O ((E.keep st.hh).put (r.ofFl fl)) (Same.refl _)
   ·obtain⟨G',O',sg,E'⟩:=E.gsome js;exact an_2 E' sg q
  |ex x=>
   simp only [e2] at q;obtain⟨G',O',sg,E'⟩:=E.gsome js;exact an_2 E' sg q
  |no=>simp only [e2] at q;exact q.elim
theorem b_6{i:Nat}(js:List Nat){x:Str}{pos':Pos}(he:ED X EX e f)(hN:X.N.Nodup)(hi:X.N[i]? =some x:=by rfl)(hx:Loc X.env.scope x:=by first|exact Or.inl rfl|exact Or.inr rfl)(hs:swapsWith e (some (.Name x pos')) pos.line X.env=pure false:=by rfl)
  (hf:X.fn x=true∨X.env.scope.names.lookup x=some .local:=by first|exact .inl rfl|exact .inr rfl|assumption):SD X EX (.Assign [.Name x pos'] e pos) (sSet i js f):=
 PS.imp (bp_3 hN hi hx he hs hf) fun D σ H q=>bi_3 q
def sExpr(js:List Nat)(f:FE):FS:=fun Δ=>match f (vall Δ) with
 | .ok _=> .nx Δ
 | .ex _=>exG js f Δ
 | .no=> .no
theorem cv_6(js:List Nat)(he:ED X EX e f)(hs:swapsWith e none pos.line X.env=pure false:=by rfl):SD X EX (.Expr e pos) (sExpr js f):=
 PS.imp (z_9 he hs) fun D σ H ⟨H0,G0,G,Δ,O,E,q⟩=>by
  unfold sExpr at q;cases e1:f (vall Δ) with
  |ok w=>
   rw [e1] at q;exact⟨x_7 G H O,vall Δ,E.aH,E.gall,by rw [e1];exact WP.intro fun v G' H' st r=>q σ G H' O (E.keep st.hh) (Same.refl _)⟩
  |ex x=>rw [e1] at q;exact bi_2 E (Same.refl _) q
  |no=>rw [e1] at q;exact q.elim
def sIf(js:List Nat)(p:FT)(g h:FS):FS:=fun Δ=>match p (vall Δ) with
 | .ok b=>if b=true then g Δ else h Δ
 | .ex _=>exT js p Δ
 | .no=> .no
theorem ax_5{H0:HB}{G0 G H:Hp}{σ:Sg}{Δ:SE}{O:OS}{D:Ends}{k:Bool→Fl}{P:Bool→Hp→Prop}{js:List Nat}(E:Ev K H0 G0 G H σ Δ O)
  {G1:Hp} (sg:Same G1 G) (q:Fin K EX H0 G0 G1 D (match p (vall Δ) with| .ok b=>k b| .ex _=>exT js p Δ| .no=> .no)) (i:∀b H',p (vall Δ)= .ok b→Ev K H0 G0 G H' σ Δ O→Fin K EX H0 G0 G1 D (k b)→P b H'):tDt K EX p σ H P:=by
 cases e1:p (vall Δ) with
 |ok b=>rw [e1] at q;exact⟨x_7 G H O,vall Δ,E.aH,E.gall,by rw [e1];exact fun G' H' st=>i b H' e1 (E.keep st.hh) q⟩
 |ex x=>rw [e1] at q;exact cl_3 E sg q
 |no=>rw [e1] at q;exact q.elim
theorem i_6(js:List Nat){c:Expr}{as bs:List Stmt}(hc:TD X EX c p)(ha:BD X EX as g)(hb:BD X EX bs h):SD X EX (.If c as bs pos) (sIf js p g h):=
 PS.imp (db_7 hc ha hb) fun D σ H ⟨H0,G0,G,Δ,O,E,q⟩=>ax_5 (k:=fun b=>if b=true then g Δ else h Δ) E (Same.refl _) q fun b H' _ E' q'=>by
  cases b with
  |true=>rw [if_pos rfl];exact⟨H0,G0,G,Δ,O,E',q'⟩
  |false=>rw [if_neg Bool.false_ne_true];exact⟨H0,G0,G,Δ,O,E',q'⟩
def r_6(js:List Nat)(p:FT)(g:FS):Nat→FS
 |0=>fun _=> .no
 |n + 1=>fun Δ=>match p (vall Δ) with
  | .ok b=>if b=true then(match g Δ with
    | .nx Δ'=>r_6 js p g n Δ'
    | .ct Δ'=>r_6 js p g n Δ'
    | .bk Δ'=> .nx Δ'
    |r=>r) else .nx Δ
  | .ex _=>exT js p Δ
  | .no=> .no
theorem bi_4(js:List Nat)(n:Nat){c:Expr}{body:List Stmt}(hp:PassesOwn (model X.prog X.w) X.A X.env X.xe)(hc:TD X EX c p)(hb:BD X EX body g):SD X EX (.While c body [] pos) (r_6 js p g n):=
 PS.imp (ci_5 hp hc hb) fun D σ H ⟨H0,G0,G1,Δ,O,E,q⟩=>by
  refine⟨fun m σ H=>∃G Δ O,Ev X.K H0 G0 G H σ Δ O∧Same G1 G∧Fin X.K EX H0 G0 G1 D (r_6 js p g m Δ),⟨n,G1,Δ,O,E,Same.refl _,q⟩, ?_⟩
  rintro m σ H ⟨G,Δ,O,E,sg,q⟩
  cases m with
  |zero=>exact False.elim q
  |succ m=>
   refine ax_5 (k:=fun b=>if b=true then(match g Δ with| .nx Δ'=>r_6 js p g m Δ'| .ct Δ'=>r_6 js p g m Δ'| .bk Δ'=> .nx Δ'|r=>r) else .nx Δ) E sg q fun b H' _ E' q'=> ?_;cases b with
   |false=>rw [if_neg Bool.false_ne_true];exact q' σ G H' O E' sg
   |true=>
    rw [if_pos rfl];rw [if_pos rfl] at q';refine⟨fun σ' H'=>∃G Δ O,Ev X.K H0 G0 G H' σ' Δ O∧Same G1 G∧Fin X.K EX H0 G0 G1 D (r_6 js p g m Δ),fun σ' H' w=>⟨m,Nat.lt_succ_self _,w⟩,H0,G0,G,Δ,O,E', ?_⟩;cases e1:g Δ with
    |nx Δ'=>rw [e1] at q';exact fun σ' G' H' O' E2 s2=>⟨G',Δ',O',E2,sg.trans s2,q'⟩
    |ct Δ'=>rw [e1] at q';exact fun σ' G' H' O' E2 s2=>⟨G',Δ',O',E2,sg.trans s2,q'⟩
    |bk Δ'=>rw [e1] at q';exact Fin.mono (r:= .nx Δ') sg q'
    |rt w=>rw [e1] at q';exact q'
    |rv d Δ'=>rw [e1] at q';exact Fin.mono (r:= .rv d Δ') sg q'
    |ex x Δ'=>rw [e1] at q';exact Fin.mono (r:= .ex x Δ') sg q'
    |no=>rw [e1] at q';exact q'
end
def start3(n:Nat)(ds:List D):SE:=ds.map Sl.sh ++ List.replicate (n - ds.length) .no
def bodyD(n:Nat)(g:FS)(ds:List D):R W:=match g (start3 n ds) with
 | .nx _=> .ok (.sh .non)
 | .rt w=> .ok w
 | .ex x _=> .ex x
 |_=> .no
theorem cl_4{G H:Hp}{vs:List V}{ds:List D}{N:List Str}(g:Same G H)(r:HasL K G vs ds):Ev K ⟨H,fun _=>0⟩ G G H (p_4 N vs) (start3 N.length ds) (fun _ _=>False):=by
 refine⟨Step.refl g, ?_,fun i d e=> ?_,fun i z d e zo=> ?_,fun _ _ ha=>ha.elim,fun _ _ _ ha=>ha.elim,fun i d e=> ?_,fun i d e=> ?_⟩
 ·unfold p_4 start3;simp only [List.length_append,List.length_map,List.length_replicate,r.length]
 ·unfold start3 at e
  by_cases hi:i < ds.length
  ·rw [List.getElem?_append_left (by rw [List.length_map];exact hi),List.getElem?_map] at e;cases q:ds[i]? with
   |none=>rw [q] at e;cases e
   |some d'=>
    rw [q] at e;cases e;obtain⟨v,e1,h⟩:=r.get q;refine⟨v, ?_,h⟩;unfold p_4;rw [List.getElem?_append_left (by rw [List.length_map,r.length];exact hi),List.getElem?_map,e1];rfl
  ·rw [List.getElem?_append_right (by rw [List.length_map];omega),List.getElem?_replicate] at e
   split at e <;> cases e
 ·exfalso;unfold start3 at e
  by_cases hi:i < ds.length
  ·rw [List.getElem?_append_left (by rw [List.length_map];exact hi),List.getElem?_map] at e;cases q:ds[i]? with
   |none=>rw [q] at e;cases e
   |some d'=>rw [q] at e;cases e;cases zo
  ·rw [List.getElem?_append_right (by rw [List.length_map];omega),List.getElem?_replicate] at e
   split at e
   ·cases e;cases zo
   ·cases e
 ·exfalso;unfold start3 at e
  by_cases hi:i < ds.length
  ·rw [List.getElem?_append_left (by rw [List.length_map];exact hi),List.getElem?_map] at e;cases q:ds[i]? with
   |none=>rw [q] at e;cases e
   |some d'=>rw [q] at e;cases e
  ·rw [List.getElem?_append_right (by rw [List.length_map];omega),List.getElem?_replicate] at e
   split at e <;> cases e
 ·exfalso;unfold start3 at e
  by_cases hi:i < ds.length
  ·rw [List.getElem?_append_left (by rw [List.length_map];exact hi),List.getElem?_map] at e;cases q:ds[i]? with
   |none=>rw [q] at e;cases e
   |some d'=>rw [q] at e;cases e
  ·rw [List.getElem?_append_right (by rw [List.length_map];omega),List.getElem?_replicate] at e
   split at e <;> cases e
theorem fn_D{c:Bool}{P:Program}{w:World}{x qual:Str}{st:Stmt}{f:Addr}{N ps:List Str}{k:Nat}{g:FS}(F:Fun K x qual st f fd)(S:FnScope N ps (b_5 st))
  (zj:∀(zp:Value) (A:Around) (outer:List Env) (s:Shared) (H:Hp) (E:XK),RoomC c k (A.deeper (envOfC qual (b_5 st) s.heap.objs.size f zp))→
   BD (cxN c P w K mg base N qual (b_5 st) f zp A outer s H E) (fun _=>EXof K E) (f_4 st) g):FnX P w K mg base c (k + 1) f fd ps (spX K ps.length (bodyD N.length g)):=by
 refine Fun.okX F S (fun vs H Q E h=>h.1) fun zp A outer s H vs Q E hr h=>⟨_,zj zp A outer s H E hr, ?_⟩;obtain⟨hl,G,ds,g0,r,o⟩:=h;refine⟨⟨H,fun _=>0⟩,G,G,_,_,cl_4 g0 r, ?_⟩;unfold bodyD at o;cases e:g (start3 N.length ds) with
 |nx Δ=>rw [e] at o;exact fun σ G' H' O E' _=>(WP.mono (w:= .sh .non) (Q:=Q) E'.st o).use E'.st.gh .non
 |rt w=>rw [e] at o;exact o
 |rv d Δ=>rw [e] at o;exact o.elim
 |ex x Δ=>rw [e] at o;exact fun σ G' H' O E' _=>(EXof K E).mono _ _ _ _ _ E'.st o
 |bk Δ=>rw [e] at o;exact o.elim
 |ct Δ=>rw [e] at o;exact o.elim
 |no=>rw [e] at o;exact o
theorem dg_8{c:Bool}{P:Program}{w:World}{x:Str}{st:Stmt}{f:Addr}{ps:List Str}{k:Nat}{Fn:List D→R W}(F:Fun K x x st f fd)(hm:mg x=some (.ref f))(hb:Binds K fd ps [])
  (ok:FnX P w K mg base c k f fd ps (spX K ps.length Fn)):FnD P w K mg base c x k ps Fn:=⟨f,fd,ok,hm,F.kp,hb⟩
def cl_5(x:Str):It:=⟨fun i _=>i < x.cps.size,fun i H v H'=>H'=H∧∃c,x.cps[i]? =some c∧v= .str ⟨#[c]⟩,fun i _=>i=x.cps.size⟩
theorem br_5{P:Program}{w:World}{tg:Expr}{it:Addr}{n:Nat}{Pv:Nat→Value→Prop}{St:Nat→Heap→Prop}{J:It}
  (W:∀A':Around,A'.handled=none→Walks P w A' it [it] [it] n Pv St)
  (az:∀i h,St i h→∃o nm vs,h.get? it=some o∧o.cls= .type nm∧o.data= .fields vs∧ ["enumerate", "zip", "dict_itemiterator", "dict_reverseitemiterator", "odict_iterator", "itertools.zip_longest", "itertools.pairwise"].contains nm=false)
  (cj:∀(i:Nat) (h h':Heap),St i h→(∀b∈ [it],∀o,h.get? b=some o→h'.get? b=some o)→St i h') (bp:∀(A:Around) (i:Nat) (s:Shared) (Q E:Value→Shared→Prop),St i s.heap→Q (.ref it) s→wpAny (model P w) A (pyIter (.ref it)) Q E s)
  (hgo:∀i H,J.go i H→i < n) (hst:∀i H,J.stop i H→i=n) (hy:∀i H u,Pv i u→∃x,RelV x u∧J.yld i H x H):Turn P w K tg J [it] it St where
 mem:=by simp
 obj:=fun i h st b hb=>by
  have e:b=it:=by simpa using hb
  subst e;obtain⟨o,nm,vs,e,c,d,_⟩:=az i h st;exact⟨o,e,fun v z=>by rw [d] at z;cases z⟩
 keep:=cj
 item:=by
  intro X hP hw hK hc i zd s σ H E I hf st hg;subst hP hw hK;obtain⟨f0,f1,f2,f3,f4,f5⟩:=hf it (by simp);refine(W X.A (I.ok.hd hc)).item i s _ _ (hgo i H hg) st fun v h' tk hv st' kk=> ?_;have I1:Inv X zd σ H {s with heap:=h',toks:=tk}:=I.turned (fun b o hb e=>kk b o (by simpa using hb) e) f0 f1 f3 f4 f5;obtain⟨x,rx,yx⟩:=hy i H v hv;obtain⟨o,nm,vs,e,c,d,hn⟩:=az (i + 1) h' st';exact⟨v,rfl,bg_9 (s:={s with heap:=h',toks:=tk}) e c d hn ⟨x,H,I1,rx,yx,st',fun b hb=>(hf b hb).1⟩⟩
 done:=by
  intro X hP hw hK hc i zd s σ H E I hf st hg;subst hP hw hK;obtain⟨f0,f1,f2,f3,f4,f5⟩:=hf it (by simp);obtain rfl:=hst i H hg;exact(W X.A (I.ok.hd hc)).done s _ _ st fun h' tk kk=>⟨rfl,I.turned (fun b o hb e=>kk b o (by simpa using hb) e) f0 f1 f3 f4 f5⟩
 self:=bp
def ItD(K:Frag)(G1:Hp)(J:It)(ds:List D):Prop:=∀G H,Same G1 G→Same G H→∀i,
 (∀d,ds[i]? =some d→J.go i H∧∀x H',J.yld i H x H'→∃G',Step G H G' H'∧Has K G' x d)∧(ds.length=i→J.stop i H)
abbrev FI:=DE→R (List D)
def tI(K:Frag)(EX:EXS)(fi:FI):TI:=fun σ H Q=>∃G δ,Same G H∧HasS K G σ δ∧match fi δ with
 | .ok ds=>∀J G' H',Step G H G' H'→ItD K G' J ds→Q J H'
 | .ex x=>(EX σ).p x G H
 | .no=>False
abbrev ID(X:Cx)(EX:EXS)(tg iter:Expr)(fi:FI):Prop:=PI X tg iter (tI X.K EX fi)
theorem PI.imp{tg e:Expr}{t t':TI}(h:PI X tg e t)(i:∀σ H Q,t' σ H Q→t σ H Q):PI X tg e t':=fun zd s σ H Q I q=>h zd s σ H Q I (i σ H Q q)
section
variable{X:Cx}{EX:EXS}{tg e a b:Expr}{f:FE}{fa:FA}{p pos:Pos}
theorem tDa.seqI{G H:Hp}{σ:Sg}{δ:DE}{k:List D→R (List D)}{Q:It→Hp→Prop}{P:List V→Hp→Prop}(g:Same G H)(s:HasS K G σ δ)
  (h:match(fa δ).bind k with| .ok ds=>∀J G' H',Step G H G' H'→ItD K G' J ds→Q J H'| .ex x=>(EX σ).p x G H| .no=>False)
  (i:∀ds vs G' H',Step G H G' H'→HasL K G' vs ds→(match k ds with| .ok ds=>∀J G2 H2,Step G' H' G2 H2→ItD K G2 J ds→Q J H2| .ex x=>(EX σ).p x G' H'| .no=>False)→P vs H'):tDa K EX fa σ H P:=by
 refine⟨G,δ,g,s, ?_⟩;cases e:fa δ with
 |ok ds=>
  rw [e] at h;simp only [R.bind_ok] at h;refine fun vs G' H' st r=>i ds vs G' H' st r ?_;cases e2:k ds with
  |ok ds'=>rw [e2] at h;exact fun J G2 H2 st2 it=>h J G2 H2 (st.trans st2) it
  |ex x=>rw [e2] at h;exact(EX σ).mono _ _ _ _ _ st h
  |no=>rw [e2] at h;exact h
 |ex x=>rw [e] at h;exact h
 |no=>rw [e] at h;exact h
def q_7(lo:Int)(n:Nat):List D:=(List.range n).map fun(k:Nat)=>D.int (lo + (k:Int))
theorem cd_9{lo:Int}{n i:Nat}{d:D}(h:(q_7 lo n)[i]? =some d):i < n∧d= .int (lo + (i:Int)):=by
 unfold q_7 at h;rw [List.getElem?_map] at h
 by_cases hi:i < n
 ·rw [List.getElem?_range hi] at h;cases h;exact⟨hi,rfl⟩
 ·rw [List.getElem?_eq_none (by rw [List.length_range];omega)] at h;cases h
theorem ax_6(lo:Int)(n:Nat):(q_7 lo n).length=n:=by unfold q_7;rw [List.length_map,List.length_range]
theorem ce_0{G:Hp}(lo:Int)(n:Nat):ItD K G (Itr lo n) (q_7 lo n):=fun G' H _ g i=>by
 refine⟨fun d e=> ?_,fun e=> ?_⟩
 ·obtain⟨hi,rfl⟩:=cd_9 e;refine⟨hi,fun x H' y=> ?_⟩;obtain⟨e1,e2⟩:=y;subst e1 e2;exact⟨G',Step.refl g, .int _⟩
 ·rw [ax_6] at e;exact Nat.le_of_eq e
def rng1:List D→R (List D)
 | [.int j]=>if j.natAbs < 4611686018427387904 then .ok (q_7 0 j.toNat) else .no
 |_=> .no
def iArgs(k:List D→R (List D))(fa:FA):FI:=fun δ=>(fa δ).bind k
theorem ai_2(hm:X.mg "range" =none)(ha:AD X EX [a] fa)(hg:Gl X "range" :=by rfl)(hs:starEach [a] X.env= [(false,eval a X.env)]:=by rfl):ID X EX tg (.Call (.Name "range" p) [a] [] pos) (iArgs rng1 fa):=
 PI.imp (cc_1 hg hm ha hs) fun σ H Q ⟨G,δ,g0,s0,o⟩=>tDa.seqI g0 s0 o fun ds vs G' H' st r o'=>by
  cases r with
  |nil=>exact False.elim o'
  |cons h t=>
   cases t with
   |cons _ _=>cases h <;> exact False.elim o'
   |nil=>
    cases h with
    |int j=>
     by_cases hc:j.natAbs < 4611686018427387904
     ·rw [show rng1 [.int j]= .ok (q_7 0 j.toNat) from if_pos hc] at o';exact⟨j,rfl,by omega,by omega,o' _ G' H' (Step.refl st.gh) (ce_0 0 j.toNat)⟩
     ·rw [show rng1 [.int j]= .no from if_neg hc] at o';exact o'.elim
    |_=>exact False.elim o'
def r_7(x:Str):List D:=x.cps.toList.map fun c=> .str ⟨#[c]⟩
def itemsD:D→R (List D)
 | .lst ds=> .ok ds
 | .tup ds=> .ok ds
 | .str x=> .ok (r_7 x)
 |_=> .no
def iOf(f:FE):FI:=fun δ=>(f δ).bind fun w=>itemsD w.d
def iAny(K:Frag)(tl:TE):TI:=fun σ H Q=>tl σ H fun x H1=>
 (∃a,x= .ref a∧(∃xs,SqL K H1 a xs)∧Q (Itl K a) H1)∨(∃a,x= .ref a∧(∃xs,SqT K H1 a xs)∧Q (Itt K a) H1)∨(∃z,x= .str z∧Q (cl_5 z) H1)
theorem dg_9{l:Expr}{tl:TE}(hl:PE X l tl):PI X tg l (iAny X.K tl):=by
 intro zd s σ H Q I h;refine thn (hl zd s σ H _ I h) fun v s1 ⟨x,H1,I1,r1,q1⟩=> ?_;rcases q1 with⟨a,e,⟨xs,hq⟩,q⟩|⟨a,e,⟨xs,hq⟩,q⟩|⟨z,e,q⟩
 ·subst e;cases r1;obtain⟨its,rv,p,hz⟩:=I1.list hq;refine wpAny_pyIter_list p.isList ?_;refine⟨s1.heap.objs.size, [s1.heap.objs.size],_,_,H1,rfl,I1.kept (t':=s1.toks) fun b o e=>Heap.get?_push_of_some _ e,cc_0 a _,⟨_,Heap.get?_push_size _ rfl,rfl,rfl⟩,fun b hb=> ?_,q⟩;have e:b=s1.heap.objs.size:=by simpa using hb
  subst e;exact I1.fpOk (Nat.le_refl _) (I1.hok.fresh (Nat.le_refl _))
 ·subst e;cases r1;obtain⟨its,rv,p,hz⟩:=I1.tuple hq;refine wpAny_pyIter_tuple (show s1.heap.IsTuple a its.toArray from p) ?_;refine⟨s1.heap.objs.size, [s1.heap.objs.size],_,_,H1,rfl,I1.kept (t':=s1.toks) fun b o e=>Heap.get?_push_of_some _ e,bp_4 a _,⟨_,Heap.get?_push_size _ rfl,rfl,rfl⟩,fun b hb=> ?_,q⟩;have e:b=s1.heap.objs.size:=by simpa using hb
  subst e;exact I1.fpOk (Nat.le_refl _) (I1.hok.fresh (Nat.le_refl _))
 ·subst e;obtain⟨t,rfl⟩:=r1;have fin:∀(nm:String) (St:Nat→Heap→Prop),(∀i h,St i h↔h.IsStrIter s1.heap.objs.size nm z t i)→(∀A':Around,A'.handled=none→Walks X.prog X.w A' s1.heap.objs.size [s1.heap.objs.size] [s1.heap.objs.size] z.cps.size (SignAt z) St)→
    ["enumerate", "zip", "dict_itemiterator", "dict_reverseitemiterator", "odict_iterator", "itertools.zip_longest", "itertools.pairwise"].contains nm=false→
    (∀(A:Around) (i:Nat) (s:Shared) (Q E:Value→Shared→Prop),s.heap.IsStrIter s1.heap.objs.size nm z t i→Q (.ref s1.heap.objs.size) s→wpAny (model X.prog X.w) A (pyIter (.ref s1.heap.objs.size)) Q E s)→
    PIE X zd σ tg Q (.ref s1.heap.objs.size) {s1 with heap:=s1.heap.push {cls:= .type nm,data:= .fields #[.str z t, .int 0 0]}}:=by
   intro nm St hS W hn hslf;refine⟨s1.heap.objs.size, [s1.heap.objs.size],St,cl_5 z,H1,rfl,I1.kept (t':=s1.toks) fun b o e=>Heap.get?_push_of_some _ e,
    br_5 W (fun i h st=> ?_) (fun i h h' st k=> ?_) (fun A i s Q E st h=>hslf A i s Q E ((hS _ _).mp st) h) (fun i H g=>g) (fun i H g=> ?_) (fun i H u hu=> ?_),(hS _ _).mpr ⟨_,Heap.get?_push_size _ rfl,rfl,rfl⟩,fun b hb=> ?_,q⟩
   ·obtain⟨o,ho,hc,hd⟩:=(hS _ _).mp st;exact⟨o,nm,_,ho,hc,hd,hn⟩
   ·obtain⟨o,ho,r⟩:=(hS _ _).mp st;exact(hS _ _).mpr ⟨o,k _ (by simp) o ho,r⟩
   ·exact g
   ·obtain⟨c,u',e1,e2⟩:=hu;subst e2;exact⟨.str ⟨#[c]⟩,⟨u',rfl⟩,rfl,c,e1,rfl⟩
   ·have e:b=s1.heap.objs.size:=by simpa using hb
    subst e;exact I1.fpOk (Nat.le_refl _) (I1.hok.fresh (Nat.le_refl _))
  cases ha:z.cps.all (· < 128)
  ·exact wpAny_pyIter_wide ha (fin "str_iterator" _ (fun _ _=>Iff.rfl) (fun A' hA=>Walks.strWide hA _ z t) (by decide) fun A i s Q E st h=>wpAny_pyIter_striter_wide st h)
  ·exact wpAny_pyIter_ascii ha (fin "str_ascii_iterator" _ (fun _ _=>Iff.rfl) (fun A' hA=>Walks.strAscii hA _ z t) (by decide) fun A i s Q E st h=>wpAny_pyIter_striter_ascii st h)
theorem cl_6{G:Hp}{a:Addr}{vs:List V}{ds:List D}(h:SqL K G a vs)(r:HasL K G vs ds):ItD K G (Itl K a) ds:=fun G' H g1 g i=>by
 refine⟨fun d e=> ?_,fun e=> ?_⟩
 ·obtain⟨v,e1,hv⟩:=r.get e;refine⟨⟨vs,v,(g1.trans g).seq h,e1⟩,fun x H' y=> ?_⟩;obtain⟨e2,y⟩:=y;subst e2;have e3:=y vs ((g1.trans g).seq h);rw [e1] at e3;cases e3;exact⟨G',Step.refl g,hv.mono g1⟩
 ·exact⟨vs,(g1.trans g).seq h,by rw [r.length];exact Nat.le_of_eq e⟩
theorem cv_7{G:Hp}{a:Addr}{vs:List V}{ds:List D}(h:SqT K G a vs)(r:HasL K G vs ds):ItD K G (Itt K a) ds:=fun G' H g1 g i=>by
 refine⟨fun d e=> ?_,fun e=> ?_⟩
 ·obtain⟨v,e1,hv⟩:=r.get e;refine⟨⟨vs,v,Same.tupS (g1.trans g) h,e1⟩,fun x H' y=> ?_⟩;obtain⟨e2,y⟩:=y;subst e2;have e3:=y vs (Same.tupS (g1.trans g) h);rw [e1] at e3;cases e3;exact⟨G',Step.refl g,hv.mono g1⟩
 ·exact⟨vs,Same.tupS (g1.trans g) h,by rw [r.length];exact Nat.le_of_eq e⟩
theorem cv_8{G:Hp}(z:Str):ItD K G (cl_5 z) (r_7 z):=fun G' H g1 g i=>by
 refine⟨fun d e=> ?_,fun e=> ?_⟩
 ·unfold r_7 at e;rw [List.getElem?_map] at e;cases q:z.cps.toList[i]? with
  |none=>rw [q] at e;cases e
  |some c=>
   rw [q] at e;cases e;have hi:i < z.cps.size:=by
    have:=(List.getElem?_eq_some_iff.mp q).1;simpa using this
   refine⟨hi,fun x H' y=> ?_⟩;obtain⟨e2,c',e3,e4⟩:=y;subst e2 e4;have:z.cps.toList[i]? =some c':=by simpa using e3
   rw [q] at this;cases this;exact⟨G',Step.refl g, .str _⟩
 ·unfold r_7 at e;rw [List.length_map] at e;show i=z.cps.size;simp at e;omega
theorem ax_7(he:ED X EX e f):ID X EX tg e (iOf f):=
 PI.imp (dg_9 he) fun σ H Q ⟨G,δ,g0,s0,o⟩=>by
  refine⟨G,δ,g0,s0, ?_⟩;unfold iOf at o;cases e1:f δ with
  |ok w=>
   rw [e1] at o;simp only [R.bind_ok] at o;refine WP.intro fun v G' H' st r=> ?_;revert r o;cases w.d with
   |lst ds=>
    intro o r;cases r with
    |lst h r=>exact .inl ⟨_,rfl,⟨_,st.gh.seq h⟩,o _ G' H' st (cl_6 h r)⟩
   |tup ds=>
    intro o r;cases r with
    |tup h r=>exact .inr (.inl ⟨_,rfl,⟨_,Same.tupS st.gh h⟩,o _ G' H' st (cv_7 h r)⟩)
   |str z=>
    intro o r;cases r;exact .inr (.inr ⟨z,rfl,o _ G' H' st (cv_8 z)⟩)
   |_=>intro o _;exact False.elim o
  |ex x=>rw [e1] at o;exact o
  |no=>rw [e1] at o;exact o
end
abbrev FG:=D→SE→R SE
def tG(K:Frag)(EX:EXS)(fg:FG):TG:=fun v σ H Q=>∃H0 G0 G Δ O d,Ev K H0 G0 G H σ Δ O∧Has K G v d∧match fg d Δ with
 | .ok Δ'=>∀σ' G' H' O',Ev K H0 G0 G' H' σ' Δ' O'→Same G G'→Q σ' H'
 | .ex _=>False
 | .no=>False
theorem PG.imp{tg:Expr}{t t':TG}(h:PG X tg t)(i:∀v σ H Q,t' v σ H Q→t v σ H Q):PG X tg t':=fun zd s σ H v u Q I r q=>h zd s σ H v u Q I r (i v σ H Q q)
abbrev GD(X:Cx)(EX:EXS)(tg:Expr)(fg:FG):Prop:=PG X tg (tG X.K EX fg)
section
variable{X:Cx}{EX:EXS}{pos:Pos}
def gV(i:Nat):FG:=fun d Δ=> .ok (Δ.set i (.sh d))
theorem bc_3{i:Nat}{x:Str}(hN:X.N.Nodup)(hi:X.N[i]? =some x:=by rfl)(hx:Loc X.env.scope x:=by first|exact Or.inl rfl|exact Or.inr rfl)
  (hf:X.fn x=true∨X.env.scope.names.lookup x=some .local:=by first|exact .inl rfl|exact .inr rfl|assumption):GD X EX (.Name x pos) (gV i):=
 PG.imp (af_0 hN hi hx hf) fun v σ H Q ⟨H0,G0,G,Δ,O,d,E,r,q⟩=>q _ G H O (E.put r) (Same.refl _)
def gV2(i j:Nat):FG:=fun d Δ=>match d with
 | .tup [a,b]=> .ok ((Δ.set i (.sh a)).set j (.sh b))
 |_=> .no
theorem br_6{i j k:Nat}{x y:Str}{p1 p2:Pos}(hc:X.calm=true)(hN:X.N.Nodup)(hi:X.N[i]? =some x:=by rfl)(hj:X.N[j]? =some y:=by rfl)(hx:Loc X.env.scope x:=by first|exact Or.inl rfl|exact Or.inr rfl)(hy:Loc X.env.scope y:=by first|exact Or.inl rfl|exact Or.inr rfl)
  (hf:X.fn x=true∨X.env.scope.names.lookup x=some .local:=by first|exact .inl rfl|exact .inr rfl|assumption) (hf2:X.fn y=true∨X.env.scope.names.lookup y=some .local:=by first|exact .inl rfl|exact .inr rfl|assumption)
  (hn:(assignEach [.Name x p1, .Name y p2] X.env).length=2:=by rfl) (hst:(assignEach [.Name x p1, .Name y p2] X.env).findIdx? (·.1)=none:=by rfl)
  (hs:(assignEach [.Name x p1, .Name y p2] X.env).map (·.2)=assign (.Name x p1) X.env::(assignEach [.Name y p2] X.env).map (·.2):=by rfl) (hs2:(assignEach [.Name y p2] X.env).map (·.2)=assign (.Name y p2) X.env::(assignEach [] X.env).map (·.2):=by rfl):
  GD X EX (.Tuple [.Name x p1, .Name y p2] k pos) (gV2 i j):=
 PG.imp (ci_4 hc (ao_5 (af_0 hN hi hx hf) (ao_5 (af_0 hN hj hy hf2) bv_6 hs2) hs) hn hst) fun v σ H Q ⟨H0,G0,G,Δ,O,d,E,r,q⟩=>by
  cases r with
  |tup h r=>
   cases r with
   |nil=>exact False.elim q
   |cons r1 r=>
    cases r with
    |nil=>exact False.elim q
    |cons r2 r=>
     cases r with
     |nil=>exact⟨_,_,rfl,Same.tupS E.st.gh h,rfl,_,_,rfl,_,_,rfl,rfl,q _ G H O ((E.put r1).put r2) (Same.refl _)⟩
     |cons _ _=>exact False.elim q
  |_=>exact False.elim q
def l_2(fg:FG)(g:FS):List D→FS
 | []=>fun Δ=> .nx Δ
 |d::ds=>fun Δ=>match fg d Δ with
  | .ok Δ1=>(match g Δ1 with
   | .nx Δ2=>l_2 fg g ds Δ2
   | .ct Δ2=>l_2 fg g ds Δ2
   | .bk Δ2=> .nx Δ2
   |r=>r)
  | .ex _=> .no
  | .no=> .no
def sFor(js:List Nat)(fi:FI)(fg:FG)(g:FS):FS:=fun Δ=>match fi (vsh Δ) with
 | .ok ds=>l_2 fg g ds Δ
 | .ex x=> .ex x Δ
 | .no=>match fi (vsh (gsome js Δ)) with
  | .ok ds=>l_2 fg g ds (gsome js Δ)
  | .ex x=> .ex x (gsome js Δ)
  | .no=> .no
theorem u_6{α:Type}{l:List α}{i:Nat}(h:i < l.length):∃x,l[i]? =some x∧l.drop i=x::l.drop (i + 1):=⟨l[i],by simp [h],List.drop_eq_getElem_cons h⟩
theorem aa_3{fg:FG}{g:FS}{H0:HB}{G0 G1 H1:Hp}{J:It}{ds:List D}{Δ:SE}{O:OS}{σ:Sg}{D:Ends}(E:Ev K H0 G0 G1 H1 σ Δ O)(it:ItD K G1 J ds)(q:Fin K EX H0 G0 G1 D (l_2 fg g ds Δ)):
  ∃W:Nat→Nat→Sg→Hp→Prop,(∃m,W 0 m σ H1)∧∀i m σ H,W i m σ H→
   (J.stop i H∧D.nx σ H)∨(J.go i H∧∃N:Sg→Hp→Prop,(∀σ' H',N σ' H'→∃m',m' < m∧W (i + 1) m' σ' H')∧∀x H',J.yld i H x H'→tG K EX fg x σ H' fun σ2 H2=>tS K EX g {D with nx:=N,ct:=N,bk:=D.nx} σ2 H2):=by
 refine⟨fun i m σ H=>m=ds.length - i∧i≤ds.length∧∃G Δ O,Ev K H0 G0 G H σ Δ O∧Same G1 G∧Fin K EX H0 G0 G1 D (l_2 fg g (ds.drop i) Δ),⟨ds.length,by simp,Nat.zero_le _,G1,Δ,O,E,Same.refl _,q⟩, ?_⟩
 rintro i m σ H ⟨rfl,hi,G,Δ,O,E,sg,q⟩
 obtain⟨i1,i2⟩:=it G H sg E.st.gh i
 by_cases hlt:i < ds.length
 ·obtain⟨d,e1,e2⟩:=u_6 hlt;obtain⟨go,yl⟩:=i1 d e1;refine .inr ⟨go,fun σ' H'=>∃G Δ O,Ev K H0 G0 G H' σ' Δ O∧Same G1 G∧Fin K EX H0 G0 G1 D (l_2 fg g (ds.drop (i + 1)) Δ),fun σ' H' w=>⟨ds.length - (i + 1),by omega,rfl,hlt,w⟩,fun x H' y=> ?_⟩;obtain⟨G',st,hx⟩:=yl x H' y;rw [e2] at q;refine⟨H0,G0,G',Δ,O,d,E.grow st,hx, ?_⟩;have q':Fin K EX H0 G0 G1 D (match fg d Δ with
   | .ok Δ1=>(match g Δ1 with
    | .nx Δ2=>l_2 fg g (ds.drop (i + 1)) Δ2
    | .ct Δ2=>l_2 fg g (ds.drop (i + 1)) Δ2
    | .bk Δ2=> .nx Δ2
    |r=>r)
   | .ex _=> .no
   | .no=> .no):=q
  cases e3:fg d Δ with
  |ok Δ1=>
   rw [e3] at q';intro σ2 G2 H2 O2 E2 s2;have s12:Same G1 G2:=sg.trans (st.gg.trans s2);refine⟨H0,G0,G2,Δ1,O2,E2, ?_⟩;cases e4:g Δ1 with
   |nx Δ2=>simp only [e4] at q';exact fun σ3 G3 H3 O3 E3 s3=>⟨G3,Δ2,O3,E3,s12.trans s3,q'⟩
   |ct Δ2=>simp only [e4] at q';exact fun σ3 G3 H3 O3 E3 s3=>⟨G3,Δ2,O3,E3,s12.trans s3,q'⟩
   |bk Δ2=>simp only [e4] at q';exact fun σ3 G3 H3 O3 E3 s3=>q' σ3 G3 H3 O3 E3 (s12.trans s3)
   |rt w=>simp only [e4] at q';exact q'
   |rv d Δ2=>simp only [e4] at q';exact fun v σ3 G3 H3 O3 E3 s3=>q' v σ3 G3 H3 O3 E3 (s12.trans s3)
   |ex x Δ2=>simp only [e4] at q';exact fun σ3 G3 H3 O3 E3 s3=>q' σ3 G3 H3 O3 E3 (s12.trans s3)
   |no=>simp only [e4] at q';exact q'
  |ex x=>rw [e3] at q';exact q'
  |no=>rw [e3] at q';exact q'
 ·have e:ds.length=i:=by omega
  refine .inl ⟨i2 e, ?_⟩;rw [List.drop_eq_nil_of_le (by omega)] at q;exact q σ G H O E sg
theorem ap_9{tg iter:Expr}{body:List Stmt}{fi:FI}{fg:FG}{g:FS}(js:List Nat)(hp:PassesOwn (model X.prog X.w) X.A X.env X.xe)(hc:X.calm=true)(hi:ID X EX tg iter fi)(hg:GD X EX tg fg)(hb:BD X EX body g)
  (hs:∀x,foldedSetIterable iter X.env x=pure x:=by intro _;rfl):SD X EX (.For tg iter body [] pos) (sFor js fi fg g):=
 PS.imp (ci_7 hp hc hi hg hb hs) fun D σ H ⟨H0,G0,G,Δ,O,E,q⟩=>by
  unfold sFor at q;cases e1:fi (vsh Δ) with
  |ok ds=>
   rw [e1] at q;refine⟨G,vsh Δ,E.st.gh,E.gsh, ?_⟩;rw [e1];exact fun J G' H' st it=>aa_3 (E.grow st) it (Fin.mono st.gg q)
  |ex x=>
   rw [e1] at q;exact⟨G,vsh Δ,E.st.gh,E.gsh,by rw [e1];exact q σ G H O E (Same.refl _)⟩
  |no=>
   rw [e1] at q;obtain⟨G1,O1,sg,E1⟩:=E.gsome js;refine⟨G1,vsh (gsome js Δ),E1.st.gh,E1.gsh, ?_⟩;cases e2:fi (vsh (gsome js Δ)) with
   |ok ds=>
    simp only [e2] at q;exact fun J G' H' st it=>aa_3 (E1.grow st) it (Fin.mono (sg.trans st.gg) q)
   |ex x=>simp only [e2] at q;exact q σ G1 H O1 E1 sg
   |no=>simp only [e2] at q;exact q
def sApp(i:Nat)(f:FE):FS:=fun Δ=>match Δ[i]? with
 |some (.ow (.lst ds))=>if ds.length < 16777216 then(match f (vsh Δ) with
   | .ok w=> .nx (Δ.set i (.ow (.lst (ds ++ [w.d]))))
   | .ex x=> .ex x Δ
   | .no=>match f (vall Δ) with
    | .ok w=>if flatD w.d=true then .nx (Δ.set i (.ow (.lst (ds ++ [w.d])))) else .no
    |_=> .no) else .no
 |_=> .no
theorem br_8{i:Nat}{x:Str}{e:Expr}{f:FE}{p1 zg zf:Pos}(he:ED X EX e f)(hN:X.N[i]? =some x:=by rfl)(hv:Vis X.env.scope x:=by first|exact Or.inl rfl|exact Or.inr (Or.inl rfl)|exact Or.inr (Or.inr rfl))(hd:(x ==("__debug__" :Str))=false:=by decide)
  (hcd:(x ==("__classdict__" :Str))=false:=by decide) (hsw:swapsWith (.Call (.Attribute (.Name x p1) "append" zg) [e] [] zf) none pos.line X.env=pure false:=by rfl)
  (ae:attributeBase (.Name x p1) "append" X.env (eval (.Name x p1) X.env)=eval (.Name x p1) X.env:=by rfl)
  (aw:((backTo zf (starEach [e] X.env)).all (fun x=> !x.1) && (backToKw zf (keywordEach [] X.env)).all (fun x=>x.1.isSome)
   && decide ([e].length + ([]:List Keyword).length + (if([]:List Keyword).isEmpty then 0 else 1) < 30))=true:=by rfl)
  (af:(zg.endLine ==zf.line)=true:=by rfl) (hs:starEach [e] X.env=(false,eval e X.env)::starEach [] X.env:=by rfl) (aa:(backTo zf (starEach [] X.env)).any (·.1)=false:=by rfl):
  SD X EX (.Expr (.Call (.Attribute (.Name x p1) "append" zg) [e] [] zf) pos) (sApp i f):=
 PS.imp (z_9 (bw_4 PySem.F.plainAttrs_list PySem.F.slot_list_append PySem.F.type_list_append ah_9 (j_7 hN hv hd hcd) (f_6 he m_7 hs) ae aw af hs aa) hsw) fun D σ H ⟨H0,G0,G,Δ,O,E,q⟩=>by
  unfold sApp at q
  split at q
  ·rename_i ds e1
   split at q
   ·rename_i hz;obtain⟨v0,s1,t⟩:=E.ow i _ _ e1 rfl;obtain⟨a,vs,rfl,m,hH,rl⟩:=t.list_of
    ·skip
     refine⟨.ref a,s1, .inl ⟨rfl,_,SqL.of hH⟩, ?_⟩;have fin:∀{G' H':Hp} {v:V} {d:L3.D},Ev X.K H0 G0 G' H' σ Δ O→Same G G'→H' a=some (.lst vs)→HasL X.K G' vs ds→Has X.K G' v d→Fin X.K EX H0 G0 G D (.nx (Δ.set i (.ow (.lst (ds ++ [d])))))→
       bb_3 (.ref a) [v] H' fun _ H1=>D.nx σ H1:=fun{G' H' v d} E' sg hH' r' hv' q'=>
      ⟨a,vs,v,rfl,rfl,hH',by rw [r'.length,sizeLine_eq];exact hz,q' σ G' _ _ (E'.writeL s1 m (r'.append (.cons hv' .nil))) sg⟩
     cases e2:f (vsh Δ) with
     |ok w=>
      simp only [e2] at q;refine⟨G,vsh Δ,E.st.gh,E.gsh, ?_⟩;rw [e2];exact WP.intro fun v G' H' st r=>fin (E.grow st) st.gg (st.hh _ _ hH) (rl.mono st.gg) r q
     |ex x=>
      simp only [e2] at q;exact⟨G,vsh Δ,E.st.gh,E.gsh,by rw [e2];exact q σ G H O E (Same.refl _)⟩
     |no=>
      simp only [e2] at q;refine⟨x_7 G H O,vall Δ,E.aH,E.gall, ?_⟩;cases e3:f (vall Δ) with
      |ok w=>
       simp only [e3] at q
       split at q
       ·rename_i fl;exact WP.intro fun v G' H' st r=>fin (E.keep st.hh) (Same.refl _) (st.hh _ _ hH) rl (r.ofFl fl) q
       ·exact q.elim
      |ex x=>simp only [e3] at q;exact q.elim
      |no=>simp only [e3] at q;exact q
   ·exact q.elim
  ·exact q.elim
end
def e_0(X:Cx)(scope:Scope)(cl:List (Str×Addr))(N':List Str)(C:Addr)(s0:Shared)(H0:Hp)(fp:List Addr)(pn:List (Addr×Obj)):Cx where
 prog:=X.prog
 w:=X.w
 K:=X.K
 mg:=X.mg
 base:=X.base
 A:=X.A
 N:=N'
 s₀:=s0
 H₀:=H0
 env:=compEnvC scope cl C X.env
 outer:=X.stack
 stack:=X.stack
 ex:=fp
 fn:=fun _=>false
 calm:=X.calm
 pn:=pn
 xe:=fun _ _=>False
abbrev FGc:=D→DE→R DE
def tGc(K:Frag)(EX:EXS)(fg:FGc):TG:=fun v σ H Q=>∃G δ d,Same G H∧HasS K G σ δ∧Has K G v d∧match fg d δ with
 | .ok δ'=>∀σ',HasS K G σ' δ'→HasS K G σ' δ→Q σ' H
 | .ex x=>(EX σ).p x G H
 | .no=>False
abbrev GC(X:Cx)(EX:EXS)(tg:Expr)(fg:FGc):Prop:=PG X tg (tGc X.K EX fg)
def CTs(X:Cx)(EX:EXS)(ifs:List Expr)(p:FT):Prop:=
 ∀(zd:List (Addr×Obj)) (s:Shared) (σ:Sg) (H:Hp) (Q:Bool→Hp→Prop),Inv X zd σ H s→tDt X.K EX p σ H Q→
  wpAny (model X.prog X.w) X.A (forIn ifs true fun c r=>if r=true then do let ok←isTrue c X.env (eval c X.env);pure (ForInStep.yield ok) else pure (ForInStep.yield r)) (TP X zd σ Q) X.xe s
section
variable{X:Cx}{EX:EXS}{pos:Pos}
def gC(i:Nat):FGc:=fun d δ=>match δ[i]? with
 |some none=> .ok (δ.set i (some d))
 |_=> .no
theorem HasS.put{G:Hp}{σ:Sg}{δ:DE}{d:D}(h:HasS K G σ δ)(r:Has K G v d)(i:Nat):HasS K G (σ.set i (some v)) (δ.set i (some d)):=by
 refine⟨by rw [List.length_set,List.length_set];exact h.len,fun j d' e=> ?_⟩;rcases i_1 e with⟨rfl,q⟩|⟨n,q⟩
 ·cases q;have hlt:i < δ.length:=by
   by_cases hh:i < δ.length
   ·exact hh
   ·rw [List.getElem?_eq_none (by rw [List.length_set];omega)] at e;cases e
  exact⟨v,by rw [List.getElem?_set_self (by rw [h.len];exact hlt)],r⟩
 ·obtain⟨v',e1,r'⟩:=h.get j d' q;exact⟨v',by rw [List.getElem?_set_ne n];exact e1,r'⟩
theorem cv_9{i:Nat}{x:Str}(hN:X.N.Nodup)(hi:X.N[i]? =some x:=by rfl)(hx:Loc X.env.scope x:=by first|exact Or.inl rfl|exact Or.inr rfl)
  (hf:X.fn x=true∨X.env.scope.names.lookup x=some .local:=by first|exact .inl rfl|exact .inr rfl|assumption):GC X EX (.Name x pos) (gC i):=
 PG.imp (af_0 hN hi hx hf) fun v σ H Q ⟨G,δ,d,g,s,r,q⟩=>by
  unfold gC at q;cases e:δ[i]? with
  |none=>rw [e] at q;exact q.elim
  |some o=>
   rw [e] at q;cases o with
   |some _=>exact q.elim
   |none=>
    refine q _ (s.put r i) ⟨by rw [List.length_set];exact s.len,fun j d' e'=> ?_⟩;obtain⟨v',e1,r'⟩:=s.get j d' e';refine⟨v', ?_,r'⟩;rw [List.getElem?_set_ne]
    ·exact e1
    ·rintro rfl
     rw [e] at e';cases e'
theorem br_9:CTs X EX [] (fun _=> .ok true):=fun zd s σ H Q I ⟨G,δ,g,h,q⟩=>wpAny_tests_nil ⟨H,I,q G H (Step.refl g)⟩
theorem cl_7{c:Expr}{p:FT}(h:TD X EX c p):CTs X EX [c] p:=fun zd s σ H Q I q=>wpAny_tests_one (h zd s σ H Q I q)
def n_5(fg:FGc)(p:FT)(f:FE)(δ:DE):List D→R (List D)
 | []=> .ok []
 |d::ds=>(fg d δ).bind fun δ1=>(p δ1).bind fun b=>if b=true then(f δ1).bind fun w=>(n_5 fg p f δ ds).bind fun rs=> .ok (w.d::rs) else n_5 fg p f δ ds
def R.calm{α:Type}:R α→R α
 | .ok w=> .ok w
 |_=> .no
@[simp] theorem R.calm_ok{α:Type}(a:α):(R.ok a).calm= .ok a:=rfl
@[simp] theorem R.calm_ex{α:Type}(x:Xn):(R.ex x:R α).calm= .no:=rfl
@[simp] theorem R.calm_no{α:Type}:(R.no:R α).calm= .no:=rfl
def g_3(m:Nat)(fi:FI)(fg:FGc)(p:FT)(f:FE):FE:=fun δ=>((fi δ).bind fun ds=>if ds.length≤16777216 then(n_5 fg p f (δ ++ List.replicate m none) ds).bind fun rs=> .ok (.ow (.lst rs)) else .no).calm
theorem R.calm_never{α:Type}{r:R α}{x:Xn}(h:r.calm= .ex x):False:=by
 cases r <;> cases h
theorem aq_0{m:Nat}{fi:FI}{fg:FGc}{p:FT}{f:FE}{δ:DE}{x:Xn}(h:g_3 m fi fg p f δ= .ex x):False:=R.calm_never h
@[reducible] def dh_0(prog:Program)(w:World)(A:Around)(env:Env)(tg elt:Expr)(ifs:List Expr)(it zn:Value)(bad:Value→Shared→Prop)(fin more:Shared→Prop):Option Value→Shared→Prop
 |none=>fin
 |some v=>wpAny (model prog w) A (letOwnedTupleGo tg it v) (fun _=>wpAny (model prog w) A (assign tg env v) (fun _=>
   wpAny (model prog w) A (forIn ifs true fun c r=>if r=true then do let ok←isTrue c env (eval c env);pure (ForInStep.yield ok) else pure (ForInStep.yield r)) (fun ok=>
    if ok=true then wpAny (model prog w) A (eval elt env) (fun x=>wpAny (model prog w) A (call (.builtin "list.append") [zn,x]) (fun _=>more) bad) bad else more) bad) bad) bad
theorem bs_0{prog:Program}{w:World}{A:Around}{R:Result→Shared→Prop}{s:Shared}{elt target iter:Expr}{ifs:List Expr}{scope:Scope}{it zn:Value}{env:Env}(I:Nat→Shared→Prop)
  (turn:∀n s,I n s→wpAny (model prog w) A (pyNext it) (dh_0 prog w A env target elt ifs it zn (notedBy (model prog w) A env fun e=>R (.error e)) (R (.ok .next)) fun s'=>∃m,m < n∧I m s') (notedBy (model prog w) A env fun e=>R (.error e)) s)
  (n:Nat) (h:I n s):codeAny (model prog w) A (.compLoop (.ListComp elt [⟨target,iter,ifs,0⟩] scope pos) 0 it zn env) R s:=by
 refine codeAny_loop rfl I (fun k t hk=>wpAny_noted (env:=env) (m:=compTurn (.ListComp elt [⟨target,iter,ifs,0⟩] scope pos) 0 it zn env) (compTurn_list .. ▸ ?_)) n h;refine wpAny_bind (wpAny_standAt (wpAny_bind (thn (turn k t hk) ?_)))
 rintro (_|v) t1 g1
 ·exact wpAny_pure g1
 refine wpAny_bind (thn g1 fun _ t2 g2=>wpAny_bind (thn g2 fun _ t3 g3=>wpAny_bind (thn g3 ?_)))
 rintro (_|_) t4 g4
 ·exact wpAny_pure ⟨rfl,g4⟩
 ·exact wpAny_bind (wpAny_bind (thn g4 fun _ t5 g5=>wpAny_bind (thn g5 fun _ t6 g6=>wpAny_pure (wpAny_pure ⟨rfl,g6⟩))))
structure CompN(X:Cx)(scope:Scope)(cl:List (Str×Addr))(N':List Str):Prop where
 clos:closureFor scope X.env=pure cl
 cell:∀y∈scope.names,y.2≠ .cell
 kind:scope.kind= .function
 names:∀y∈scope.names,y.2= .local→scope.names.lookup y.1=some .local
 sub:∀x c,cl.lookup x=some c→X.env.cells.lookup x=some c
 has:∀x,((relabel scope X.env).names.lookup x=some .cell∨(relabel scope X.env).names.lookup x=some .free)→∃c,cl.lookup x=some c
 old:∀(i:Nat) (x:Str),N'[i]? =some x→i < X.N.length→Vis (relabel scope X.env) x→X.N[i]? =some x∧(X.env.scope.names.lookup x=some .cell∨X.env.scope.names.lookup x=some .free)∧(∃c,cl.lookup x=some c)∧((relabel scope X.env).names.lookup x=some .cell∨(relabel scope X.env).names.lookup x=some .free)
def i_2(cells:List (Str×Addr)):List (Str×NameKind)→List (Str×Addr)→List (Str×Addr)
 | [],zn=>zn
 |(x,k)::r,zn=>i_2 cells r (if k= .free then(x,(cells.lookup x).getD 0)::zn else zn)
theorem au_9{scope:Scope}{env:Env}(h:∀p∈scope.names,p.2= .free→∃c,env.cells.lookup p.1=some c):closureFor scope env=pure (i_2 env.cells scope.names []):=by
 have all:∀(names:List (Str×NameKind)) (zn:List (Str×Addr)),(∀p∈names,p.2= .free→∃c,env.cells.lookup p.1=some c)→
   (forIn names zn fun(x:Str×NameKind) (r:List (Str×Addr))=>if(x.2 == .free)=true then do let a←cellOf env x.1;pure (ForInStep.yield ((x.1,a)::r)) else pure (ForInStep.yield r):Sem (List (Str×Addr)))=pure (i_2 env.cells names zn):=by
  intro names
  induction names with
  |nil=>intro zn _;rfl
  |cons p r ih=>
   intro zn hp;obtain⟨x,k⟩:=p;rw [List.forIn_cons]
   by_cases hk:k= .free
   ·subst hk;obtain⟨c,e⟩:=hp (x, .free) List.mem_cons_self rfl;have e1:cellOf env x=pure c:=by unfold cellOf;rw [show env.cells.lookup x=some c from e]
    simp only [beq_self_eq_true,if_true,e1,pure_bind];rw [ih _ fun q hq=>hp q (List.mem_cons_of_mem _ hq)];show _=pure (i_2 env.cells r (if NameKind.free= .free then(x,(env.cells.lookup x).getD 0)::zn else zn));rw [if_pos rfl,show env.cells.lookup x=some c from e];rfl
   ·have hb:(k ==NameKind.free)=false:=by simpa using hk
    simp only [hb,Bool.false_eq_true,if_false,pure_bind];rw [ih _ fun q hq=>hp q (List.mem_cons_of_mem _ hq)];show _=pure (i_2 env.cells r (if k= .free then(x,(env.cells.lookup x).getD 0)::zn else zn));rw [if_neg hk]
 unfold closureFor;have:=all scope.names [] h;simpa using this
theorem bi_5{cells:List (Str×Addr)}{q:Str×Addr}:∀{names:List (Str×NameKind)} {zn:List (Str×Addr)},q∈i_2 cells names zn→q∈zn∨((q.1,NameKind.free)∈names∧q.2=(cells.lookup q.1).getD 0)
 | [],zn,h=> .inl h
 |(x,k)::r,zn,h=>by
  rcases bi_5 (names:=r) h with h|⟨h1,h2⟩
  ·split at h
   ·rename_i hk;rcases List.mem_cons.mp h with rfl|h
    ·exact .inr ⟨by rw [hk];exact List.mem_cons_self,rfl⟩
    ·exact .inl h
   ·exact .inl h
  ·exact .inr ⟨List.mem_cons_of_mem _ h1,h2⟩
theorem bi_6{cells:List (Str×Addr)}{x:Str}:∀{names:List (Str×NameKind)} {zn:List (Str×Addr)},(zn.lookup x).isSome=true→((i_2 cells names zn).lookup x).isSome=true
 | [],zn,h=>h
 |(y,k)::r,zn,h=>by
  refine bi_6 (names:=r) ?_
  split
  ·rw [List.lookup_cons]
   split
   ·rfl
   ·exact h
  ·exact h
theorem bi_7{cells:List (Str×Addr)}{x:Str}:∀{names:List (Str×NameKind)} {zn:List (Str×Addr)},(x,NameKind.free)∈names→((i_2 cells names zn).lookup x).isSome=true
 |(y,k)::r,zn,h=>by
  rcases List.mem_cons.mp h with h|h
  ·cases h;refine bi_6 (names:=r) ?_;rw [if_pos rfl,List.lookup_cons];simp
  ·exact bi_7 (names:=r) h
theorem r_8{env:Env}:∀(names:List (Str×NameKind)) (x:Str),
  (names.map fun(n,k)=>if(k ==NameKind.free && env.scope.kind == .function && env.kindOf n ==some .cell) then(n,NameKind.cell) else(n,k)).lookup x=(names.lookup x).map fun k=>if(k ==NameKind.free && env.scope.kind == .function && env.kindOf x ==some .cell)=true then NameKind.cell else k
 | [],x=>rfl
 |(n,k)::r,x=>by
  have ih:=r_8 (env:=env) r x;show List.lookup x ((if(k ==NameKind.free && env.scope.kind == .function && env.kindOf n ==some .cell)=true then(n,NameKind.cell) else(n,k))::_)=_;cases hx:x ==n with
  |true=>
   have e:x=n:=eq_of_beq hx;subst e
   by_cases hc:(k ==NameKind.free && env.scope.kind == .function && env.kindOf x ==some .cell)=true
   ·rw [if_pos hc];simp only [List.lookup_cons,beq_self_eq_true,Option.map_some];rw [if_pos hc]
   ·rw [if_neg hc];simp only [List.lookup_cons,beq_self_eq_true,Option.map_some];rw [if_neg hc]
  |false=>
   by_cases hc:(k ==NameKind.free && env.scope.kind == .function && env.kindOf n ==some .cell)=true
   ·rw [if_pos hc];simp only [List.lookup_cons,hx];exact ih
   ·rw [if_neg hc];simp only [List.lookup_cons,hx];exact ih
def y_1(inner outer:List (Str×NameKind))(N N':List Str):Bool:=
 (inner.all fun p=>p.2 != .cell && (p.2 != .local || inner.lookup p.1 ==some .local) && (p.2 != .free || (outer.lookup p.1 ==some .cell || outer.lookup p.1 ==some .free))) &&
 (List.range N.length).all fun i=>match N'[i]? with
  |some x=>(match inner.lookup x with
   |some .free=>N[i]? ==some x && (outer.lookup x ==some .cell || outer.lookup x ==some .free)
   |some .local=>false
   |some .cell=>false
   |_=>true)
  |none=>true
theorem af_9{scope:Scope}{N':List Str}(ok:X.Ok)(hk:scope.kind= .function)(hb:y_1 scope.names X.env.scope.names X.N N'=true):CompN X scope (i_2 X.env.cells scope.names []) N':=by
 unfold y_1 at hb;rw [Bool.and_eq_true] at hb;obtain⟨h1,h2⟩:=hb;have h1:=List.all_eq_true.mp h1;have h2:=List.all_eq_true.mp h2;have fr:∀p∈scope.names,p.2= .free→∃c,X.env.cells.lookup p.1=some c:=fun p hp hf=>by
  have z:=h1 p hp;simp only [hf,Bool.and_eq_true,Bool.or_eq_true,bne_iff_ne,beq_iff_eq] at z;exact ok.has p.1 (by
   rcases z.2 with z|z
   ·exact absurd rfl z
   ·exact z)
 have inn:∀x k,scope.names.lookup x=some k→(x,k)∈scope.names:=fun x k e=>PySem.mem_of_lookup e;have au:∀p∈scope.names,p.2≠ .cell:=fun p hp hc=>by
  have z:=h1 p hp;rw [hc] at z;simp at z
 have cv:∀x,scope.names.lookup x=some .free→∃c,(i_2 X.env.cells scope.names []).lookup x=some c:=fun x e=>Option.isSome_iff_exists.mp (bi_7 (inn x _ e));have fj:∀x,((relabel scope X.env).names.lookup x=some .cell∨(relabel scope X.env).names.lookup x=some .free)→scope.names.lookup x=some .free:=fun x h=>by
  unfold relabel at h;rw [r_8] at h;cases e:scope.names.lookup x with
  |none=>rw [e] at h;simp at h
  |some k=>
   rw [e] at h;have nc:=au (x,k) (inn x k e);cases k with
   |free=>rfl
   |cell=>exact absurd rfl nc
   |«local»=>simp at h
   |globalExplicit=>simp at h
   |globalImplicit=>simp at h
 refine⟨au_9 fr,au,hk,fun y hy hl=> ?_,fun x c e=> ?_,fun x h=>cv x (fj x h),fun i x e hi hv=> ?_⟩
 ·have z:=h1 y hy;simp only [hl,Bool.and_eq_true,Bool.or_eq_true,bne_iff_ne,beq_iff_eq] at z;rcases z.1.2 with z|z
  ·exact absurd rfl z
  ·exact z
 ·rcases bi_5 (PySem.mem_of_lookup e) with z|⟨z1,z2⟩
  ·exact absurd z (by simp)
  ·obtain⟨c',e'⟩:=fr (x, .free) z1 rfl;have z2:c=(X.env.cells.lookup x).getD 0:=z2;have e':X.env.cells.lookup x=some c':=e';rw [e'] at z2⊢;cases z2;rfl
 ·have z:=h2 i (List.mem_range.mpr hi);rw [e] at z;dsimp only at z;have look:scope.names.lookup x=some .free∧(((relabel scope X.env).names.lookup x=some .cell∨(relabel scope X.env).names.lookup x=some .free)):=by
   unfold Vis relabel at hv;unfold relabel;rw [r_8] at hv⊢;cases q:scope.names.lookup x with
   |none=>rw [q] at hv;simp at hv
   |some k=>
    rw [q] at hv z;cases k with
    |free=>
     refine⟨rfl, ?_⟩
     by_cases hc:(X.env.scope.kind == .function && X.env.kindOf x ==some .cell)=true
     ·left;simp [Bool.and_assoc,hc]
     ·right;simp [Bool.and_assoc,hc]
    |cell=>simp at z
    |«local»=>simp at z
    |globalExplicit=>simp at hv
    |globalImplicit=>simp at hv
  rw [look.1] at z;simp only [Bool.and_eq_true,Bool.or_eq_true,beq_iff_eq] at z;exact⟨z.1,z.2,cv x look.1,look.2⟩
structure TurnZ(P:Program)(w:World)(K:Frag)(tg:Expr)(J:It)(fp:List Addr)(it:Addr)(tn:Nat→Heap→Prop)(B:Cx→Prop):Prop where
 obj:∀i h,tn i h→∀b∈fp,∃o,h.get? b=some o∧∀v,o.data≠ .cell v
 keep:∀i h h',tn i h→(∀b∈fp,∀o,h.get? b=some o→h'.get? b=some o)→tn i h'
 item:∀(X:Cx),X.prog=P→X.w=w→X.K=K→∀(i:Nat) (zd:List (Addr×Obj)) (s:Shared) (σ:Sg) (H:Hp) (E:Value→Shared→Prop),B X→Inv X zd σ H s→(∀b∈fp,x_6 X zd H b)→tn i s.heap→J.go i H→
  wpAny (model P w) X.A (pyNext (.ref it)) (fun r s1=>∃u,r=some u∧
   wpAny (model P w) X.A (letOwnedTupleGo tg (.ref it) u) (fun _ s2=>∃x H',Inv X zd σ H' s2∧RelV x u∧J.yld i H x H'∧tn (i + 1) s2.heap∧∀b∈fp,H' b=none) E s1) E s
 done:∀(X:Cx),X.prog=P→X.w=w→X.K=K→∀(i:Nat) (zd:List (Addr×Obj)) (s:Shared) (σ:Sg) (H:Hp) (E:Value→Shared→Prop),B X→Inv X zd σ H s→(∀b∈fp,x_6 X zd H b)→tn i s.heap→J.stop i H→
  wpAny (model P w) X.A (pyNext (.ref it)) (fun r s1=>r=none∧Inv X zd σ H s1) E s
 self:∀(A:Around) (i:Nat) (s:Shared) (Q:Value→Shared→Prop) (E:Value→Shared→Prop),tn i s.heap→Q (.ref it) s→wpAny (model P w) A (pyIter (.ref it)) Q E s
def bi_8:Cx→Prop:=fun X=>X.calm=true
theorem Turn.z{P:Program}{w:World}{tg:Expr}{J:It}{fp:List Addr}{it:Addr}{tn:Nat→Heap→Prop}(T:Turn P w K tg J fp it tn):TurnZ P w K tg J fp it tn bi_8:=
 ⟨T.obj,T.keep,fun X a b c i zd s σ H E hc=>T.item X a b c hc i zd s σ H E,fun X a b c i zd s σ H E hc=>T.done X a b c hc i zd s σ H E,T.self⟩
def BX:Cx→Prop:=fun X=>X.A.handled=none∨∃(x:Addr) (o:Obj) (u:HO) (us:Array Value),X.A.handled=some (.ref x)∧X.H₀ x=some (.frz o u)∧o.data= .fields us∧us[2]? =some .none
theorem BX.ne{zd:List (Addr×Obj)}{s:Shared}{σ:Sg}{a:Addr}(b:BX X)(I:Inv X zd σ H s)(n:H a=none):X.A.handled≠some (.ref a):=fun z=>by
 rcases b with b|⟨x,o,u,us,e,h,_⟩
 ·rw [b] at z;cases z
 ·rw [e] at z;injection z with z;injection z with z;rw [←z,I.base.frzs x o u h] at n;cases n
def PIZ(X:Cx)(B:Cx→Prop)(tg iter:Expr)(wi:TI):Prop:=
 ∀(zd:List (Addr×Obj)) (s:Shared) (σ:Sg) (H:Hp) (R:It→Hp→Prop),Inv X zd σ H s→wi σ H R→
  wpAny (model X.prog X.w) X.A (eval iter X.env) (fun v s1=>wpAny (model X.prog X.w) X.A (pyIter v) (fun itv s2=>∃(it:Addr) (fp:List Addr) (tn:Nat→Heap→Prop) (J:It) (H':Hp),itv= .ref it∧Inv X zd σ H' s2∧TurnZ X.prog X.w X.K tg J fp it tn B∧tn 0 s2.heap∧(∀b∈fp,x_6 X zd H' b)∧R J H') X.xe s1) X.xe s
theorem PI.z{tg iter:Expr}{wi:TI}(h:PI X tg iter wi):PIZ X bi_8 tg iter wi:=fun zd s σ H R I q=>
 wpAny_mono (h zd s σ H R I q) (fun v s1 h1=>wpAny_mono h1 (fun itv s2 ⟨it,fp,tn,J,H',e,I2,T,r⟩=>⟨it,fp,tn,J,H',e,I2,Turn.z T,r⟩) fun _ _ z=>z) fun _ _ z=>z
theorem ax_8{elt iter tg:Expr}{ifs:List Expr}{scope:Scope}{N':List Str}{fi:FI}{fg:FGc}{p:FT}{f:FE}{m:Nat}(hx0:∀e s,¬X.xe e s){B:Cx→Prop}(hk:scope.kind= .function)(hb:y_1 scope.names X.env.scope.names X.N N'=true)
  (hm:N'.length=X.N.length + m)
  (hin:∀C s0 H0 fp pn,GC (e_0 X scope (i_2 X.env.cells scope.names []) N' C s0 H0 fp pn) h_7 tg fg∧CTs (e_0 X scope (i_2 X.env.cells scope.names []) N' C s0 H0 fp pn) h_7 ifs p∧ED (e_0 X scope (i_2 X.env.cells scope.names []) N' C s0 H0 fp pn) h_7 elt f)
  {zd:List (Addr×Obj)} {s:Shared} {σ:Sg} {δ:DE} (I:Inv X zd σ H s) {Z:Hp→Hp→Prop} (hZ:∀G2 H2,Z G2 H2→Same G2 H2∧HasS X.K G2 σ δ) (hB:∀C s0 H0 fp pn,Inv X zd σ H0 s0→B (e_0 X scope (i_2 X.env.cells scope.names []) N' C s0 H0 fp pn))
  (hit:wpAny (model X.prog X.w) X.A (eval iter X.env) (fun xv s₁=>wpAny (model X.prog X.w) X.A (pyIter xv) (fun itv s₂=>∃(it:Addr) (fp:List Addr) (tn:Nat→Heap→Prop) (J:It) (H2:Hp) (ds:List D) (G2:Hp),itv= .ref it∧Inv X zd σ H2 s₂∧TurnZ X.prog X.w X.K tg J fp it tn B∧tn 0 s₂.heap∧(∀b∈fp,x_6 X zd H2 b)∧fi δ= .ok ds∧Z G2 H2∧ItD X.K G2 J ds) X.xe s₁) X.xe s)
  {RR:Value→Addr→Result→Shared→Prop}
  (o:match g_3 m fi fg p f δ with| .ok _=>True| .ex x=>False| .no=>False)
  (hRR:∀(Da C:Addr) (s1:Shared) (G2 H2 G' H':Hp) (vs:List V) (rs:List D),g_3 m fi fg p f δ= .ok (.ow (.lst rs))→Inv X zd σ H' s1→(∃m,s1.heap.Ns C m)→x_6 X zd H' C→Z G2 H2→Step G2 H2 G' H'→H2 Da=none→H' Da=some (.lst vs)→G' Da=none→HasL X.K G' vs rs→RR (.ref Da) C (.ok .next) s1):
  wpAny (model X.prog X.w) X.A (eval iter X.env) (fun x s₁=>wpAny (model X.prog X.w) X.A (pyIter x) (fun it s₂=>wpAny (model X.prog X.w) X.A (newList []) (fun zn s₃=>
   wpAny (model X.prog X.w) X.A (newFunctionEnv scope X.env.globals (i_2 X.env.cells scope.names []) [] X.env.qual none .none (some X.env)) (fun cenv s₄=>
    codeAny (model X.prog X.w) X.A (.compStart (.ListComp elt [⟨tg,iter,ifs,0⟩] scope pos) 0 it zn {cenv with scope:=relabel scope X.env}) (RR zn cenv.locals) s₄) X.xe s₃) X.xe s₂) X.xe s₁) X.xe s:=by
 have n:=af_9 I.ok hk hb;generalize hcle:i_2 X.env.cells scope.names []=cl at n hin hB⊢;have bz:∀ds,fi δ= .ok ds→ds.length≤16777216∧(match n_5 fg p f (δ ++ List.replicate m none) ds with| .ok rs=>g_3 m fi fg p f δ= .ok (.ow (.lst rs))| .ex x=>False| .no=>False):=fun ds e=>by
  unfold g_3 at o⊢;simp only [e,R.bind_ok] at o⊢
  by_cases hz:ds.length≤16777216
  ·refine⟨hz, ?_⟩;rw [if_pos hz] at o⊢;cases e2:n_5 fg p f (δ ++ List.replicate m none) ds with
   |ok rs=>rfl
   |ex x=>rw [e2] at o;exact o
   |no=>rw [e2] at o;exact o
  ·rw [if_neg hz] at o;exact o.elim
 
 refine wpAny_mono hit (fun xv s₁ h₁=>wpAny_mono h₁ (fun itv s₂ h₂=> ?_) fun _ _ e=>(hx0 _ _ e).elim) fun _ _ e=>(hx0 _ _ e).elim;obtain⟨it,fp,tn,J,H2,ds,G2,rfl,I2,T,st2,f2,e2,hz2,itd⟩:=h₂;obtain⟨sg2,h0⟩:=hZ G2 H2 hz2;obtain⟨hz,o⟩:=bz ds e2
 
 have hfD:H2 s₂.heap.objs.size=none:=I2.hok.fresh (Nat.le_refl _);refine wpAny_newObj_type (wpAny_newFunctionEnv n.cell (by intro y hy;simp at hy) (fun h₁ hns₁ hsb₁=> ?_) n.kind);dsimp only at hns₁ hsb₁⊢;generalize hDa:s₂.heap.objs.size=Da at hfD;have hDn: @Eq Nat s₂.heap.objs.size Da:=hDa;have I3:Inv X zd σ (upd H2 Da (.lst [])) {s₂ with heap:=s₂.heap.push {cls:= .type "list",dict:=none,data:= .seq ([]:List Value).toArray}}:=by
  rw [←hDa];exact I2.lnew (t':=s₂.toks) .nil (Nat.zero_le _)
 generalize hH3:s₂.heap.push {cls:= .type "list",dict:=none,data:= .seq ([]:List Value).toArray}=hp3 at hns₁ hsb₁ I3⊢;have hC:hp3.objs.size=Da + 1:=by rw [←hH3,Heap.size_push,hDa]
 generalize hCe:hp3.objs.size=C at hns₁ hsb₁ hC;have hCn: @Eq Nat hp3.objs.size C:=hCe;have hC2: @Eq Nat C (Da + 1):=hC;have dh:∀b o,s₂.heap.get? b=some o→hp3.get? b=some o:=fun b o e=>by rw [←hH3];exact Heap.get?_push_of_some _ e
 have up:∀b o,hp3.get? b=some o→h₁.get? b=some o:=fun b o e=>hsb₁.extBut b o (Nat.ne_of_lt (show @LT.lt Nat _ b C by rw [←hCn];exact Heap.lt_size e)) (Heap.get?_push_of_some _ e)
 
 have fpC:∀b∈fp,b < s₂.heap.objs.size:=fun b hb=>by
  obtain⟨o,e,_⟩:=T.obj _ _ st2 b hb;exact Heap.lt_size e
 have hcl:∀x c,cl.lookup x=some c→c < hp3.objs.size∧c∉fp∧(upd H2 Da (.lst [])) c=none:=fun x c e=>by
  have e':=n.sub x c e;obtain⟨v,hv⟩:=I3.cell x c e';exact⟨hv.lt,fun z=>(f2 c z).2.2.2.2.1 x c e' rfl,I3.freeC x c e'⟩
 let X':=e_0 X scope cl N' C {s₂ with heap:=hp3} (upd H2 Da (.lst [])) fp (X.pn ++ zd)
 have ok':X'.Ok:=by
  refine⟨I.ok.mod,n.kind,I.ok.glob,I.ok.blt,Nat.le_of_eq hCe,fun x y c h1 h2=>I.ok.inj x y c (n.sub x c h1) (n.sub y c h2),fun x hx=>n.has x hx,fun x c z=> ?_,I.ok.hd,I.ok.frames, .inl rfl,fun b hb=>⟨?_,fun x c e z=> ?_⟩,fun b o e=> ?_, ?_,fun b o e hb=> ?_,fun b hb z=> ?_,I3.stack,I3.stkFree⟩
  ·exact absurd z Bool.false_ne_true
  ·exact Nat.ne_of_lt (Nat.lt_of_lt_of_le (fpC b hb) (show @LE.le Nat _ s₂.heap.objs.size C by omega))
  ·subst z;exact(hcl x c e).2.1 hb
  ·exact I3.bs b o e
  ·exact Nat.le_trans I.ok.bsz I3.sz
  ·rcases(f2 b hb).2.2.2.1 with z|z
   ·exact I.ok.noex b o e z
   ·exact absurd (Heap.lt_size (I.ok.bs b o e).1) (Nat.not_lt_of_le z)
  ·rcases List.mem_cons.mp (I3.stkSub b z) with z|z
   ·exact(f2 b hb).2.1 z
   ·exact(f2 b hb).2.2.1 z
 have lenσ:σ.length=X.N.length:=I.len;have I4:Inv X' [] (σ ++ List.replicate m none) (upd H2 Da (.lst [])) {s₂ with heap:=h₁,toks:=s₂.toks + ([]:List (Str×Value)).length}:=by
  refine⟨ok',rfl,I2.bare,Un.kept up,⟨_,hns₁,fun i x v e1 e2 e3=> ?_⟩,fun x c e=> ?_, ?_,fun x c e=>(hcl x c e).2.2,fun p hp=> ?_,I3.hok.kept up, ?_⟩
  ·have hi:i < σ.length:=by
    by_cases hh:i < σ.length
    ·exact hh
    ·rw [List.getElem?_append_right (by omega),List.getElem?_replicate] at e2
     split at e2 <;> cases e2
   rw [List.getElem?_append_left hi] at e2;obtain⟨n1,n2,⟨c,n3⟩,n4⟩:=n.old i x e1 (by omega) e3;obtain⟨mm,hnm,hl⟩:=I3.loc;obtain⟨u,r,l⟩:=hl i x v n1 e2 (.inr n2);refine⟨u,r, .inr ⟨n4,c,n3, ?_⟩⟩;have n3':=n.sub x c n3;rcases l with⟨k1,k2⟩|⟨k1,c',k2,k3⟩
   ·exfalso;have k1':X.env.scope.names.lookup x=some .local:=k1;rcases n2 with n2|n2
    ·rw [n2] at k1';cases k1'
    ·rw [n2] at k1';cases k1'
   ·rw [n3'] at k2;cases k2;exact k3.keeps up
  ·obtain⟨v,hv⟩:=I3.cell x c (n.sub x c e);exact⟨v,hv.keeps up⟩
  ·show upd H2 Da (.lst []) C=none;exact I3.hok.fresh (by show hp3.objs.size≤C;omega)
  ·have hp':p∈X.pn ++ zd:=by
    have hp2:p∈(X.pn ++ zd) ++ []:=hp
    rwa [List.append_nil] at hp2
   obtain⟨z1,z2,z3,z4,z5⟩:=I3.pin p hp';refine⟨up _ _ z1,z2, ?_,fun z=> ?_,z5⟩
   ·exact Nat.ne_of_lt (show @LT.lt Nat _ p.1 C by rw [←hCn];exact Heap.lt_size z1)
   ·rcases List.mem_cons.mp (I3.stkSub p.1 z) with z|z
    ·exact z3 z
    ·exact z4 z
  ·rw [List.length_append,List.length_replicate,lenσ];exact hm.symm
 obtain⟨hgc,hct,hel⟩:=hin C {s₂ with heap:=hp3} (upd H2 Da (.lst [])) fp (X.pn ++ zd);have hS4:HasS X.K G2 (σ ++ List.replicate m none) (δ ++ List.replicate m none):=by
  refine⟨by rw [List.length_append,List.length_append,List.length_replicate,List.length_replicate,h0.len],fun i d e=> ?_⟩
  by_cases hh:i < δ.length
  ·rw [List.getElem?_append_left hh] at e;obtain⟨v,e1,r⟩:=h0.get i d e;exact⟨v,by rw [List.getElem?_append_left (by rw [h0.len];exact hh)];exact e1,r⟩
  ·rw [List.getElem?_append_right (by omega),List.getElem?_replicate] at e
   split at e <;> cases e
 generalize hδ:δ ++ List.replicate m none=δ' at hS4 o;have stn:tn 0 h₁:=T.keep 0 _ _ st2 fun b hb o e=>up b o (dh b o e);have fpn:∀b∈fp,(upd H2 Da (.lst [])) b=none:=fun b hb=>by
  rw [a_5 (Nat.ne_of_lt (show @LT.lt Nat _ b Da by rw [←hDn];exact fpC b hb))];exact(f2 b hb).1
 have cg:∀{pl:List (Addr×Obj)} {H':Hp},pl= []→(∀b∈fp,H' b=none)→∀b∈fp,x_6 X' pl H' b:=fun{pl H'} hpl hn b hb=>by
  subst hpl;refine⟨hn b hb, ?_,fun z=> ?_, .inl hb,fun x c e z=> ?_,fun p hp z=> ?_⟩
  ·exact Nat.ne_of_lt (Nat.lt_of_lt_of_le (fpC b hb) (show @LE.le Nat _ s₂.heap.objs.size C by omega))
  ·rcases List.mem_cons.mp (I3.stkSub b z) with z|z
   ·exact(f2 b hb).2.1 z
   ·exact(f2 b hb).2.2.1 z
  ·subst z;exact(hcl x c e).2.1 hb
  ·have hp':p∈X.pn ++ zd:=by
    have hp2:p∈(X.pn ++ zd) ++ []:=hp
    rwa [List.append_nil] at hp2
   exact(f2 b hb).2.2.2.2.2 p hp' z
 have loop:∀s4:Shared,Inv X' [] (σ ++ List.replicate m none) (upd H2 Da (.lst [])) s4→tn 0 s4.heap→codeAny (model X.prog X.w) X.A (.compLoop (.ListComp elt [⟨tg,iter,ifs,0⟩] scope pos) 0 (.ref it) (.ref Da) (compEnvC scope cl C X.env)) (RR (.ref Da) C) s4:=by
  intro s4 I4 tn4;refine bs_0 (fun k s'=>∃i σ' H' G' vs rs,k=ds.length - i∧i≤ds.length∧Inv X' [] σ' H' s'∧tn i s'.heap∧(∀b∈fp,H' b=none)∧HasS X.K G' σ' δ'∧Step G2 H2 G' H'∧Same G2 G'∧H' Da=some (.lst vs)∧G' Da=none∧
   HasL X.K G' vs rs∧rs.length≤i∧(match n_5 fg p f δ' (ds.drop i) with| .ok rs2=>g_3 m fi fg p f δ= .ok (.ow (.lst (rs ++ rs2)))| .ex x=>False| .no=>False)) ?_ ds.length
   ⟨0,_,_,G2, [], [],by simp,Nat.zero_le _,I4,tn4,fpn,hS4,Step.own sg2 hfD _,Same.refl _,a_9,sg2.free hfD, .nil,Nat.zero_le _,by simpa using o⟩
  rintro k s' ⟨i,σ',H',G',vs,rs,rfl,hi,I',tni,fn',hS,st,sg,hD,gD,rl,hl,o'⟩
  obtain⟨i1,i2⟩:=itd G' H' sg st.gh i
  by_cases hlt:i < ds.length
  ·obtain⟨d,e1,e2⟩:=u_6 hlt;obtain⟨go,yl⟩:=i1 d e1;refine thn (T.item X' rfl rfl rfl i [] s' σ' H' _ (hB _ _ _ _ _ I3) I' (cg rfl fn') tni go) fun r s1 ⟨u,hr,h1⟩=> ?_;subst hr;refine thn h1 fun _ s5 ⟨x,H5,I5,r5,y5,st5,fr5⟩=> ?_;obtain⟨G5,ao,hx5⟩:=yl x H5 y5;have I5':=I5.pinned (cg rfl fr5) (T.obj _ _ st5);rw [e2] at o';have o1:match((fg d δ').bind fun δ1=>(p δ1).bind fun b=>if b=true then(f δ1).bind fun w=>(n_5 fg p f δ' (ds.drop (i + 1))).bind fun rs=> .ok (w.d::rs) else n_5 fg p f δ' (ds.drop (i + 1))) with| .ok rs2=>g_3 m fi fg p f δ= .ok (.ow (.lst (rs ++ rs2)))| .ex x=>False| .no=>False:=o'
   have hS5:HasS X.K G5 σ' δ':=hS.mono ao.gg;refine wpAny_mono (hgc _ s5 σ' H5 x u (fun σ6 H6=>∃δ1,fg d δ'= .ok δ1∧H6=H5∧HasS X.K G5 σ6 δ1∧HasS X.K G5 σ6 δ') I5' r5 ⟨G5,δ',d,ao.gh,hS5,hx5, ?_⟩) (fun _ s6 ⟨σ6,H6,I6,δ1,e6,eH,hS6,hS6'⟩=> ?_) fun _ _ z=>False.elim z
   ·cases e6:fg d δ' with
    |ok δ1=>exact fun σ6 h6 h6'=>⟨δ1,rfl,rfl,h6,h6'⟩
    |ex x=>rw [e6] at o1;exact o1
    |no=>rw [e6] at o1;exact o1
   subst eH;rw [e6] at o1;simp only [R.bind_ok] at o1;refine wpAny_mono (hct _ s6 σ6 H6 (fun b H7=>∃G7,p δ1= .ok b∧Step G5 H6 G7 H7) I6 ⟨G5,δ1,ao.gh,hS6, ?_⟩) (fun b s7 ⟨H7,I7,G7,e7,stp7⟩=> ?_) fun _ _ z=>False.elim z
   ·cases e7:p δ1 with
    |ok b=>exact fun G7 H7 st7=>⟨G7,rfl,st7⟩
    |ex x=>rw [e7] at o1;exact o1
    |no=>rw [e7] at o1;exact o1
   rw [e7] at o1;simp only [R.bind_ok] at o1
   
   have gD7:G7 Da=none:=(ao.trans stp7).nw Da gD (by rw [hD];simp);have hD7:H7 Da=some (.lst vs):=(ao.trans stp7).hh _ _ hD;have bh:∀{σ9:Sg} {H9:Hp} {s9:Shared},Inv X' ([] ++ ao_6 fp s5.heap) σ9 H9 s9→tn (i + 1) s9.heap∧∀b∈fp,H9 b=none:=fun{σ9 H9 s9} I9=>
    ⟨T.keep _ _ _ st5 fun b hb o e=>(I9.pin (b,o) (List.mem_append_right _ (List.mem_append_right _ (v_6 hb e)))).1,fun b hb=>by
     obtain⟨o,e,d⟩:=T.obj _ _ st5 b hb;exact(I9.pin (b,o) (List.mem_append_right _ (List.mem_append_right _ (v_6 hb e)))).2.1⟩
   have hSk:∀{G9:Hp},Same G7 G9→HasS X.K G9 σ6 δ':=fun{G9} sm=>hS6'.mono (stp7.gg.trans sm);cases b with
   |false=>
    rw [if_neg Bool.false_ne_true] at o1⊢;exact⟨ds.length - (i + 1),by omega,i + 1,σ6,H7,G7,vs,rs,rfl,hlt,I7.unpinned,(bh I7).1,(bh I7).2,hSk (Same.refl _),st.trans (ao.trans stp7),sg.trans (ao.gg.trans stp7.gg),hD7,gD7,rl.mono (ao.gg.trans stp7.gg),by omega,o1⟩
   |true=>
    rw [if_pos rfl] at o1⊢;refine wpAny_mono (hel _ s7 σ6 H7 (fun v H8=>∃w G8,f δ1= .ok w∧Step G7 H7 G8 H8∧Has X.K G8 v w.d) I7 ⟨G7,δ1,stp7.gh,hS6.mono stp7.gg, ?_⟩) (fun u8 s8 ⟨v8,H8,I8,r8,w8,G8,e8,stp8,hv8⟩=> ?_) fun _ _ z=>False.elim z
    ·cases e8:f δ1 with
     |ok w=>exact WP.intro fun v G8 H8 st8 r8=>⟨w,G8,rfl,st8,r8⟩
     |ex x=>rw [e8] at o1;exact o1
     |no=>rw [e8] at o1;exact o1
    rw [e8] at o1;simp only [R.bind_ok] at o1;have gD8:G8 Da=none:=stp8.nw Da gD7 (by rw [hD7];simp);have hD8:H8 Da=some (.lst vs):=stp8.hh _ _ hD7;have rl8:HasL X.K G8 vs rs:=rl.mono (ao.gg.trans (stp7.gg.trans stp8.gg));refine wpAny_mono (ah_9 (X:=X') _ s8 σ6 H8 (.ref Da) [v8] (.ref Da) [u8] (fun _ H9=>H9=upd H8 Da (.lst (vs ++ [v8]))) I8 rfl (.cons r8 .nil) ⟨Da,vs,v8,rfl,rfl,hD8,by rw [rl.length,sizeLine_eq];omega,rfl⟩) (fun _ s9 ⟨_,H9,I9,_,e9⟩=> ?_) fun _ _ z=>False.elim z;subst e9;have stA:=st.trans (ao.trans (stp7.trans stp8));refine⟨ds.length - (i + 1),by omega,i + 1,σ6,_,G8,vs ++ [v8],rs ++ [w8.d],rfl,hlt,I9.unpinned,(bh I9).1,(bh I9).2,hSk stp8.gg,⟨fun b o z=> ?_,fun b o z=> ?_,stA.gg,stA.nw⟩,sg.trans (ao.gg.trans (stp7.gg.trans stp8.gg)),a_9,gD8,rl8.append (.cons hv8 .nil),by rw [List.length_append,List.length_singleton];omega, ?_⟩
    ·rw [a_5 (b_9 z hfD)];exact stA.hh b o z
    ·rw [a_5 (b_9 z gD8)];exact stp8.gh b o z
    ·cases e10:n_5 fg p f δ' (ds.drop (i + 1)) with
     |ok rs2=>
      rw [e10] at o1;simp only [R.bind_ok] at o1⊢;rw [List.append_assoc];exact o1
     |ex x=>rw [e10] at o1;exact o1
     |no=>rw [e10] at o1;exact o1
  ·have e:ds.length=i:=by omega
   refine thn (T.done X' rfl rfl rfl i [] s' σ' H' _ (hB _ _ _ _ _ I3) I' (cg rfl fn') tni (i2 e)) fun r s1 ⟨hr,I1⟩=> ?_;subst hr;rw [List.drop_eq_nil_of_le (by omega)] at o';have o1:g_3 m fi fg p f δ= .ok (.ow (.lst (rs ++ []))):=o';rw [List.append_nil] at o1;obtain⟨mm,hnm,_⟩:=I1.loc;have dz:Inv X zd σ H' s1:=I3.call' (s':=s1) (ch:=fp) I1.os I1.base I1.hok I1.bare fun b hb=>by
    obtain⟨f0,f1',f2',f3,f4,f5⟩:=f2 b hb;exact⟨f3,f1',f4,f5⟩
   exact hRR Da C s1 G2 H2 G' H' vs rs o1 dz ⟨mm,hnm⟩ (I3.fpOk (by show hp3.objs.size≤C;omega) I1.free) hz2 st hfD hD gD rl
 exact codeAny_compStart_list (loop _ I4 stn) (T.self X.A 0 _ _ _ stn (loop _ I4 stn))
theorem aq_1{elt iter tg:Expr}{ifs:List Expr}{scope:Scope}{N':List Str}{fi:FI}{fg:FGc}{p:FT}{f:FE}{m:Nat}(hx0:∀e s,¬X.xe e s){B:Cx→Prop}(hi:PIZ X B tg iter (tI X.K h_7 fi))(hk:scope.kind= .function)(hb:y_1 scope.names X.env.scope.names X.N N'=true)
  (hm:N'.length=X.N.length + m)
  (hin:∀C s0 H0 fp pn,GC (e_0 X scope (i_2 X.env.cells scope.names []) N' C s0 H0 fp pn) h_7 tg fg∧CTs (e_0 X scope (i_2 X.env.cells scope.names []) N' C s0 H0 fp pn) h_7 ifs p∧ED (e_0 X scope (i_2 X.env.cells scope.names []) N' C s0 H0 fp pn) h_7 elt f)
  {zd:List (Addr×Obj)} {s:Shared} {σ:Sg} {G H:Hp} {δ:DE} (I:Inv X zd σ H s) (g0:Same G H) (h0:HasS X.K G σ δ) (hB:∀C s0 H0 fp pn,Inv X zd σ H0 s0→B (e_0 X scope (i_2 X.env.cells scope.names []) N' C s0 H0 fp pn)) {RR:Value→Addr→Result→Shared→Prop}
  (o:match g_3 m fi fg p f δ with| .ok _=>True| .ex x=>False| .no=>False)
  (hRR:∀(Da C:Addr) (s1:Shared) (G' H':Hp) (vs:List V) (rs:List D),g_3 m fi fg p f δ= .ok (.ow (.lst rs))→Inv X zd σ H' s1→(∃m,s1.heap.Ns C m)→x_6 X zd H' C→Step G H G' H'→H Da=none→H' Da=some (.lst vs)→G' Da=none→HasL X.K G' vs rs→RR (.ref Da) C (.ok .next) s1):
  wpAny (model X.prog X.w) X.A (eval iter X.env) (fun x s₁=>wpAny (model X.prog X.w) X.A (pyIter x) (fun it s₂=>wpAny (model X.prog X.w) X.A (newList []) (fun zn s₃=>
   wpAny (model X.prog X.w) X.A (newFunctionEnv scope X.env.globals (i_2 X.env.cells scope.names []) [] X.env.qual none .none (some X.env)) (fun cenv s₄=>
    codeAny (model X.prog X.w) X.A (.compStart (.ListComp elt [⟨tg,iter,ifs,0⟩] scope pos) 0 it zn {cenv with scope:=relabel scope X.env}) (RR zn cenv.locals) s₄) X.xe s₃) X.xe s₂) X.xe s₁) X.xe s:=by
 refine ax_8 hx0 (B:=B) hk hb hm hin I (Z:=fun G2 H2=>Step G H G2 H2) (fun G2 H2 z=>⟨z.gh,h0.mono z.gg⟩) hB ?_ o fun Da C s1 G2 H2 G' H' vs rs e Io hm' fc z st h1 h2 h3 rl=>hRR Da C s1 G' H' vs rs e Io hm' fc (z.trans st) (z.hh.free h1) h2 h3 rl;refine wpAny_mono (hi zd s σ H (fun J H2=>∃ds G2,fi δ= .ok ds∧Step G H G2 H2∧ItD X.K G2 J ds) I ⟨G,δ,g0,h0, ?_⟩) (fun xv s₁ h₁=>wpAny_mono h₁ (fun itv s₂ h₂=> ?_) fun _ _ e=>(hx0 _ _ e).elim) fun _ _ e=>(hx0 _ _ e).elim
 ·unfold g_3 at o;cases e:fi δ with
  |ok ds=>exact fun J G2 H2 st it=>⟨ds,G2,rfl,st,it⟩
  |ex x=>rw [e] at o;exact o
  |no=>rw [e] at o;exact o
 ·obtain⟨it,fp,tn,J,H2,rfl,I2,T,st2,f2,ds,G2,e2,stp,itd⟩:=h₂;exact⟨it,fp,tn,J,H2,ds,G2,rfl,I2,T,st2,f2,e2,stp,itd⟩
theorem ce_1{elt iter tg:Expr}{ifs:List Expr}{scope:Scope}{N':List Str}{fi:FI}{fg:FGc}{p:FT}{f:FE}{m:Nat}(hx0:∀e s,¬X.xe e s){B:Cx→Prop}(hB:∀zd σ C s0 H0 fp pn,Inv X zd σ H0 s0→B (e_0 X scope (i_2 X.env.cells scope.names []) N' C s0 H0 fp pn))(hi:PIZ X B tg iter (tI X.K h_7 fi))(hk:scope.kind= .function)(hb:y_1 scope.names X.env.scope.names X.N N'=true)
  (hm:N'.length=X.N.length + m)
  (hin:∀C s0 H0 fp pn,GC (e_0 X scope (i_2 X.env.cells scope.names []) N' C s0 H0 fp pn) h_7 tg fg∧CTs (e_0 X scope (i_2 X.env.cells scope.names []) N' C s0 H0 fp pn) h_7 ifs p∧ED (e_0 X scope (i_2 X.env.cells scope.names []) N' C s0 H0 fp pn) h_7 elt f)
  (hs:∀x,foldedSetIterable iter X.env x=pure x:=by intro _;rfl):ED X h_7 (.ListComp elt [⟨tg,iter,ifs,0⟩] scope pos) (g_3 m fi fg p f):=by
 intro zd s σ H Q I q;obtain⟨G,δ,g0,h0,o⟩:=q;rw [eval_ListComp];have n:=af_9 I.ok hk hb;refine wpAny_comprehension_free (use:=none) rfl hs n.clos n.kind n.names (aq_1 (RR:=fun zn C=>compPost (model X.prog X.w) X.A X.xe none (EP X zd σ Q) zn C) hx0 hi hk hb hm hin I g0 h0 (hB _ _) ?_ fun Da C s1 G' H' vs rs e Io hm' fc st h1 h2 h3 rl=> ?_)
 ·cases e:g_3 m fi fg p f δ with
  |ok w=>trivial
  |ex x=>rw [e] at o;exact o
  |no=>rw [e] at o;exact o
 ·rw [e] at o;obtain⟨mm,hnm⟩:=hm';obtain⟨c0,c1,c2,c3,c4,c5⟩:=fc;exact⟨mm,hnm,fun h' sb=>⟨.ref Da,H',Io.turned (t':=s1.toks) (fun b ob hb e=>(sb.2 b hb).trans e) c0 c1 c3 c4 c5,rfl,o (.ref Da) (fun b=>b=Da) G' H' st (fun a e=>by subst e;exact⟨h1,h3,by rw [h2];simp⟩) (.list h2 rfl rl)⟩⟩
theorem cl_8{elt iter tg:Expr}{ifs:List Expr}{scope:Scope}{N':List Str}{fi:FI}{fg:FGc}{p:FT}{f:FE}{m:Nat}(hx0:∀e s,¬X.xe e s)(hc:X.calm=true)(hi:ID X h_7 tg iter fi)(hk:scope.kind= .function)(hb:y_1 scope.names X.env.scope.names X.N N'=true)
  (hm:N'.length=X.N.length + m)
  (hin:∀C s0 H0 fp pn,GC (e_0 X scope (i_2 X.env.cells scope.names []) N' C s0 H0 fp pn) h_7 tg fg∧CTs (e_0 X scope (i_2 X.env.cells scope.names []) N' C s0 H0 fp pn) h_7 ifs p∧ED (e_0 X scope (i_2 X.env.cells scope.names []) N' C s0 H0 fp pn) h_7 elt f)
  (hs:∀x,foldedSetIterable iter X.env x=pure x:=by intro _;rfl):ED X h_7 (.ListComp elt [⟨tg,iter,ifs,0⟩] scope pos) (g_3 m fi fg p f):=
 ce_1 (B:=bi_8) hx0 (fun _ _ _ _ _ _ _ _=>hc) (PI.z hi) hk hb hm hin hs
theorem bc_4{elt iter tg:Expr}{ifs:List Expr}{scope:Scope}{N':List Str}{fi:FI}{fg:FGc}{p:FT}{f:FE}{m:Nat}(hc:X.calm=true)(hi:ID X.nox h_7 tg iter fi)(hk:scope.kind= .function)(hb:y_1 scope.names X.env.scope.names X.N N'=true)
  (hm:N'.length=X.N.length + m)
  (hin:∀C s0 H0 fp pn,GC (e_0 X scope (i_2 X.env.cells scope.names []) N' C s0 H0 fp pn) h_7 tg fg∧CTs (e_0 X scope (i_2 X.env.cells scope.names []) N' C s0 H0 fp pn) h_7 ifs p∧ED (e_0 X scope (i_2 X.env.cells scope.names []) N' C s0 H0 fp pn) h_7 elt f)
  (hs:∀x,foldedSetIterable iter X.env x=pure x:=by intro _;rfl):ED X EX (.ListComp elt [⟨tg,iter,ifs,0⟩] scope pos) (g_3 m fi fg p f):=
 PE.imp (PE.nox (cl_8 (X:=X.nox) (fun _ _ z=>z) hc hi hk hb hm hin hs)) fun σ H Q ⟨G,δ,g0,h0,o⟩=>by
  refine⟨G,δ,g0,h0, ?_⟩;cases e:g_3 m fi fg p f δ with
  |ok w=>rw [e] at o;exact o
  |ex x=>exact(aq_0 e).elim
  |no=>rw [e] at o;exact o
theorem PS.nox{st:Stmt}{t:TS}(h:PS X.nox st t):PS X st t:=fun zd s σ H D I hw=>
 wpAny_mono (h zd s σ H D (I.wish _) hw) (fun _ _ q=>q.unwish) fun _ _ z=>False.elim z
theorem cw_0{i:Nat}{js:List Nat}{f:FE}(h:∀δ x,f δ≠ .ex x){Δ Δ':SE}{x:Xn}(e:sSet i js f Δ= .ex x Δ'):False:=by
 unfold sSet at e;have hp:∀Δ2,sPut i Δ2 (f (vsh Δ2))= .ex x Δ'→False:=fun Δ2 e2=>by
  unfold sPut at e2;cases q:f (vsh Δ2) with
  |ok w=>rw [q] at e2;cases w <;> cases e2
  |ex y=>exact h _ _ q
  |no=>rw [q] at e2;cases e2
 cases q:f (vsh Δ) with
 |ok w=>rw [q] at e;cases w <;> cases e
 |ex y=>exact h _ _ q
 |no=>
  rw [q] at e;cases q2:f (vall Δ) with
  |ok w=>
   simp only [q2] at e
   split at e
   ·cases e
   ·exact hp _ e
  |ex y=>exact h _ _ q2
  |no=>simp only [q2] at e;cases e
theorem cl_9(js:List Nat){elt iter tg:Expr}{ifs:List Expr}{scope:Scope}{N':List Str}{fi:FI}{fg:FGc}{p:FT}{f:FE}{m i:Nat}{y:Str}{py bc:Pos}(hx0:∀e s,¬X.xe e s)(hc:X.calm=true)(hi:ID X h_7 tg iter fi)(hk:scope.kind= .function)(hb:y_1 scope.names X.env.scope.names X.N N'=true)
  (hm:N'.length=X.N.length + m)
  (hin:∀C s0 H0 fp pn,GC (e_0 X scope (i_2 X.env.cells scope.names []) N' C s0 H0 fp pn) h_7 tg fg∧CTs (e_0 X scope (i_2 X.env.cells scope.names []) N' C s0 H0 fp pn) h_7 ifs p∧ED (e_0 X scope (i_2 X.env.cells scope.names []) N' C s0 H0 fp pn) h_7 elt f)
  (hN:X.N.Nodup) (hy:X.N[i]? =some y:=by rfl) (hx:Loc X.env.scope y:=by first|exact Or.inl rfl|exact Or.inr rfl) (hf:X.fn y=true∨X.env.scope.names.lookup y=some .local:=by first|exact .inl rfl|exact .inr rfl|assumption)
  (hsw:swapsWith (.ListComp elt [⟨tg,iter,ifs,0⟩] scope pos) (some (.Name y py)) bc.line X.env=pure true:=by rfl)
  (hs:∀x,foldedSetIterable iter X.env x=pure x:=by intro _;rfl):SD X h_7 (.Assign [.Name y py] (.ListComp elt [⟨tg,iter,ifs,0⟩] scope pos) bc) (sSet i js (g_3 m fi fg p f)):=by
 intro zd s σ H D I q;have q2:=bi_3 q;obtain⟨G,δ,g0,h0,o⟩:=q2;have n:=af_9 I.ok hk hb;rw [exec_Assign_Name_used _ _ _ _ hsw];refine wpAny_bind (wpAny_standAt (wpAny_bind ?_));show wpAny _ X.A (do let _←comprehension (.ListComp elt [⟨tg,iter,ifs,0⟩] scope pos) scope X.env _ (newList []) false (eval iter X.env) (some (assign (.Name y py) X.env))) _ _ s;refine wpAny_bind (wpAny_mono (wpAny_comprehension_free (use:=some (assign (.Name y py) X.env)) (Q:=fun _ s'=>SP X zd D .next s') rfl hs n.clos n.kind n.names
  (aq_1 (RR:=fun zn C=>compPost (model X.prog X.w) X.A X.xe (some (assign (.Name y py) X.env)) (fun _ s'=>SP X zd D .next s') zn C) hx0 (B:=bi_8) (PI.z hi) hk hb hm hin I g0 h0 (fun _ _ _ _ _ _=>hc) ?_ fun Da C s1 G' H' vs rs e Io hm' fc st h1 h2 h3 rl=> ?_)) (fun _ s' hq=>wpAny_pure (wpAny_pure hq)) fun _ _ e=>e)
 ·cases e:g_3 m fi fg p f δ with
  |ok w=>trivial
  |ex x=>rw [e] at o;exact o
  |no=>rw [e] at o;exact o
 ·rw [e] at o;obtain⟨mm,hnm⟩:=hm';obtain⟨c0,c1,c2,c3,c4,c5⟩:=fc;show wpAny _ X.A (assign (.Name y py) X.env (.ref Da)) _ _ _;refine wpAny_assign_Name (aw_0 Io hN hy hx (v:= .ref Da) rfl (fun s2 I2 ⟨a,sb,ha⟩=> ?_) hf);have hCa:C≠a:=by
   rcases ha with rfl|ha
   ·exact c1
   ·exact fun z=>c4 y a ha z.symm
  refine⟨mm,hnm.sameBut sb hCa,fun h' sb'=>⟨_,H',I2.turned (t':=s2.toks) (fun b ob hb e=>(sb'.2 b hb).trans e) c0 c1 c3 c4 c5, ?_⟩⟩;exact o (.ref Da) (fun b=>b=Da) G' H' st (fun a e=>by subst e;exact⟨h1,h3,by rw [h2];simp⟩) (.list h2 rfl rl)
theorem cw_1(js:List Nat){elt iter tg:Expr}{ifs:List Expr}{scope:Scope}{N':List Str}{fi:FI}{fg:FGc}{p:FT}{f:FE}{m i:Nat}{y:Str}{py bc:Pos}(hc:X.calm=true)(hi:ID X.nox h_7 tg iter fi)(hk:scope.kind= .function)(hb:y_1 scope.names X.env.scope.names X.N N'=true)
  (hm:N'.length=X.N.length + m)
  (hin:∀C s0 H0 fp pn,GC (e_0 X scope (i_2 X.env.cells scope.names []) N' C s0 H0 fp pn) h_7 tg fg∧CTs (e_0 X scope (i_2 X.env.cells scope.names []) N' C s0 H0 fp pn) h_7 ifs p∧ED (e_0 X scope (i_2 X.env.cells scope.names []) N' C s0 H0 fp pn) h_7 elt f)
  (hN:X.N.Nodup) (hy:X.N[i]? =some y:=by rfl) (hx:Loc X.env.scope y:=by first|exact Or.inl rfl|exact Or.inr rfl) (hf:X.fn y=true∨X.env.scope.names.lookup y=some .local:=by first|exact .inl rfl|exact .inr rfl|assumption)
  (hsw:swapsWith (.ListComp elt [⟨tg,iter,ifs,0⟩] scope pos) (some (.Name y py)) bc.line X.env=pure true:=by rfl)
  (hs:∀x,foldedSetIterable iter X.env x=pure x:=by intro _;rfl):SD X EX (.Assign [.Name y py] (.ListComp elt [⟨tg,iter,ifs,0⟩] scope pos) bc) (sSet i js (g_3 m fi fg p f)):=
 PS.imp (PS.nox (cl_9 (X:=X.nox) js (fun _ _ z=>z) hc hi hk hb hm hin hN hy hx hf hsw hs)) fun D σ H ⟨H0,G0,G,Δ,O,E,q⟩=>by
  refine⟨H0,G0,G,Δ,O,E, ?_⟩;cases e:sSet i js (g_3 m fi fg p f) Δ with
  |ex x Δ'=>exact(cw_0 (fun _ _ z=>aq_0 z) e).elim
  |_=>rw [e] at q;exact q
end
theorem ax_9:bootBuiltins "bool" =some (.type "bool"):=by decide +kernel
theorem ai_3{k:Nat}{scope:Scope}{cl:List (Str×Addr)}{N':List Str}{C:Addr}{s0:Shared}{H0:Hp}{fp:List Addr}{pn:List (Addr×Obj)}{c:Bool}(h:RoomC c k (Cx.A X)):RoomC c k (Cx.A (e_0 X scope cl N' C s0 H0 fp pn)):=h
section
variable{X:Cx}{EX:EXS}{a b e:Expr}{es:List Expr}{f g:FE}{fa:FA}{pos p2:Pos}
abbrev FO:=DE→R (Option Int)
def tDo(K:Frag)(EX:EXS)(fo:FO):TO:=fun σ H Q=>∃G δ,Same G H∧HasS K G σ δ∧match fo δ with
 | .ok i=>∀G' H',Step G H G' H'→Q i H'
 | .ex x=>(EX σ).p x G H
 | .no=>False
abbrev OD(X:Cx)(EX:EXS)(e:Option Expr)(fo:FO):Prop:=PO X e (tDo X.K EX fo)
def oNone:FO:=fun _=> .ok none
def intPart:D→R (Option Int)
 | .int i=> .ok (some i)
 |_=> .no
def oSome(f:FE):FO:=fun δ=>(f δ).bind fun w=>intPart w.d
theorem PO.imp{e:Option Expr}{t t':TO}(h:PO X e t)(i:∀σ H Q,t' σ H Q→t σ H Q):PO X e t':=fun zd s σ H Q I q=>h zd s σ H Q I (i σ H Q q)
theorem bc_5:OD X EX none oNone:=PO.imp ct_7 fun σ H Q ⟨G,δ,g,s,o⟩=>o G H (Step.refl g)
theorem bc_6(h:ED X EX e f):OD X EX (some e) (oSome f):=PO.imp (ct_8 h) fun σ H Q ⟨G,δ,g,s,o⟩=>by
 refine⟨G,δ,g,s, ?_⟩;unfold oSome at o;cases e1:f δ with
 |ok w=>
  rw [e1] at o;simp only [R.bind_ok] at o;refine WP.intro fun v G' H' st r=> ?_;revert r o;cases w.d with
  |int i=>intro o r;cases r;exact⟨i,rfl,o G' H' st⟩
  |_=>intro o _;exact False.elim o
 |ex x=>rw [e1] at o;exact o
 |no=>rw [e1] at o;exact o
def cutL{α:Type}(xs:List α)(lo hi:Option Int):List α:=(xs.drop (HT.sIx xs.length 0 lo)).take (HT.sIx xs.length xs.length hi - HT.sIx xs.length 0 lo)
def aq_2:D→Option Int→Option Int→R W
 | .lst ds,lo,hi=> .ok (.ow (.lst (cutL ds lo hi)))
 | .str x,lo,hi=>if x.length≤16777216 then .ok (.sh (.str (Txt.slice x lo hi))) else .no
 |_,_,_=> .no
theorem dh_1:SlR X (fun x lo hi H Q=>∃z,x= .str z∧z.length≤sizeLine∧Q (.str (Txt.slice z lo hi)) H):=by
 intro zd s σ H x v vl vu lo hi sl Q I rx hs pl pu h;obtain⟨z,rfl,hz,q⟩:=h;obtain⟨t,rfl⟩:=rx;refine⟨"str",_,PySem.F.slot_str_getitem.lookup,typeIs_str _ _ _, ?_⟩;obtain⟨o,ho,hc,hd⟩:=hs;have fin:∀t' k,EP X zd σ Q (.str (Txt.slice z lo hi) t') {s with toks:=k}:=fun t' k=>⟨.str _,H,I.tok _,⟨_,rfl⟩,q⟩;cases pl with
 |none=>
  cases pu with
  |none=>exact wpAny_getItem_str_slice (l:=none) (u:=none) (st:=none) ⟨o,ho,hc,hd⟩ rfl (post_val_or_str ⟨Nat.le_trans (Txt.slice_le z _ _) hz,fin⟩)
  |int j uj=>exact wpAny_getItem_str_slice (l:=none) (u:=some (j,uj)) (st:=none) ⟨o,ho,hc,hd⟩ rfl (post_val_or_str ⟨Nat.le_trans (Txt.slice_le z _ _) hz,fin⟩)
 |int i ui=>
  cases pu with
  |none=>exact wpAny_getItem_str_slice (l:=some (i,ui)) (u:=none) (st:=none) ⟨o,ho,hc,hd⟩ rfl (post_val_or_str ⟨Nat.le_trans (Txt.slice_le z _ _) hz,fin⟩)
  |int j uj=>exact wpAny_getItem_str_slice (l:=some (i,ui)) (u:=some (j,uj)) (st:=none) ⟨o,ho,hc,hd⟩ rfl (post_val_or_str ⟨Nat.le_trans (Txt.slice_le z _ _) hz,fin⟩)
def rSlD(K:Frag):V→Option Int→Option Int→Hp→VK→Prop:=fun x lo hi H Q=>∃(EX:EXT) (G:Hp) (d:D),Same G H∧Has K G x d∧Out K EX G H (aq_2 d lo hi) Q
theorem sl_d:SlR X (rSlD X.K):=by
 intro zd s σ H x v vl vu lo hi sl Q I rx hs pl pu h;obtain⟨EX,G,d,g,r,o⟩:=h;cases r with
 |lst h r=>
  rename_i vs ds;refine cu_0 zd s σ H _ v vl vu lo hi sl Q I rx hs pl pu ⟨_,_,rfl,g.seq h,fun p hp=> ?_⟩;have dg:HasL X.K G (cutV vs lo hi) (cutL ds lo hi):=by
   unfold cutV cutL;rw [r.length];exact(r.drop _).take _
  exact v_7 o g dg p hp
 |str z=>
  simp only [aq_2] at o
  split at o
  ·rename_i hz;exact dh_1 zd s σ H _ v vl vu lo hi sl Q I rx hs pl pu ⟨z,rfl,by rw [sizeLine_eq];exact hz,e_4 o g (.str _)⟩
  ·exact o.elim
 |_=>exact False.elim o
def eSlice(f:FE)(lo hi:FO):FE:=fun δ=>(f δ).bind fun w=>(lo δ).bind fun l=>(hi δ).bind fun u=>aq_2 w.d l u
theorem tDo.seq{G H:Hp}{σ:Sg}{δ:DE}{fo:FO}{k:Option Int→R W}{Q:VK}{P:Option Int→Hp→Prop}(g:Same G H)(s:HasS K G σ δ)(h:Out K (EX σ) G H ((fo δ).bind k) Q)
  (i:∀b G' H',fo δ= .ok b→Step G H G' H'→Out K (EX σ) G' H' (k b) Q→P b H'):tDo K EX fo σ H P:=by
 refine⟨G,δ,g,s, ?_⟩;cases e:fo δ with
 |ok w=>rw [e] at h;exact fun G' H' st=>i w G' H' e st (Out.mono st h)
 |ex x=>rw [e] at h;exact h
 |no=>rw [e] at h;exact h
theorem aq_3{lo hi:Option Expr}{fl fh:FO}(he:ED X EX e f)(hl:OD X EX lo fl)(hu:OD X EX hi fh):ED X EX (.Subscript e (.Slice lo hi none p2) pos) (eSlice f fl fh):=
 PE.imp (cj_5 sl_d he hl hu) fun σ H Q ⟨G,δ,g0,s0,o⟩=>tD.seq g0 s0 o fun w v G1 H1 _ st1 r1 o1=>tDo.seq st1.gh (s0.mono st1.gg) o1 fun l G2 H2 _ st2 o2=>
  tDo.seq st2.gh (s0.mono (st1.gg.trans st2.gg)) o2 fun u G3 H3 _ st3 o3=>⟨_,G3,w.d,st3.gh,r1.mono (st2.gg.trans st3.gg),o3⟩
def tyD(T:String):D→Bool
 | .str _=>T == "str"
 | .int _=>T == "int"
 | .lst _=>T == "list"
 |_=>false
theorem do_3{G H:Hp}{T:String}{d:D}(g:Same G H)(r:Has K G v d)(h:tyD T d=true):tyV K T v H:=by
 cases r with
 |str x=>exact eq_of_beq h
 |int i=>exact eq_of_beq h
 |lst hq r=>exact .inl ⟨eq_of_beq h,_,g.seq hq⟩
 |_=>cases h
def rDm(K:Frag)(fn:D→List D→R W):V→List V→Hp→VK→Prop:=fun x vs H Q=>∃(EX:EXT) (G:Hp) (d:D) (ds:List D),Same G H∧Has K G x d∧HasL K G vs ds∧Out K EX G H (fn d ds) Q
abbrev MtD(X:Cx)(id:String)(fn:D→List D→R W):Prop:=MtR X id (rDm X.K fn)
def eMeth(T:String)(fn:D→List D→R W)(f:FE)(fa:FA):FE:=fun δ=>(f δ).bind fun w=>if tyD T w.d=true then(fa δ).bind fun ds=>fn w.d ds else .no
variable{o:Expr}{name:Str}{zg zf:Pos}{T id:String}{fn:D→List D→R W}
theorem cw_2(pa:PlainAttrs T)(slot:Slot T name id)(hty:typeOf (.builtin id)=pure (.type "method_descriptor"))(hm:MtD X id fn)(ho:ED X EX o f)(ha:AD X EX (e::es) fa)
  (ae:attributeBase o name X.env (eval o X.env)=eval o X.env:=by rfl)
  (aw:((backTo zf (starEach (e::es) X.env)).all (fun x=> !x.1) && (backToKw zf (keywordEach [] X.env)).all (fun x=>x.1.isSome)
   && decide ((e::es).length + ([]:List Keyword).length + (if([]:List Keyword).isEmpty then 0 else 1) < 30))=true:=by rfl)
  (af:(zg.endLine ==zf.line)=true:=by rfl) (hs:starEach (e::es) X.env=(false,eval e X.env)::starEach es X.env:=by rfl) (aa:(backTo zf (starEach es X.env)).any (·.1)=false:=by rfl):
  ED X EX (.Call (.Attribute o name zg) (e::es) [] zf) (eMeth T fn f fa):=
 PE.imp (bw_4 pa slot hty hm ho ha ae aw af hs aa) fun σ H Q ⟨G,δ,g0,s0,o⟩=>tD.seq g0 s0 o fun w v G1 H1 _ st1 r1 o1=>by
  split at o1
  ·rename_i ht;exact⟨do_3 st1.gh r1 ht,tDa.seq st1.gh (s0.mono st1.gg) o1 fun ds vs G2 H2 _ st2 r2 o2=>⟨_,G2,w.d,ds,st2.gh,r1.mono st2.gg,r2,o2⟩⟩
  ·exact o1.elim
def eMeth0(T:String)(fn:D→List D→R W)(f:FE):FE:=fun δ=>(f δ).bind fun w=>if tyD T w.d=true then fn w.d [] else .no
theorem cw_3{G:Hp}{d:D}{vs:List V}{ds:List D}(r:Has K G v d)(rl:HasL K G vs ds){P:Prop}(h:∀x y,v= .str x→d= .str x→vs= [.str y]→ds= [.str y]→P)(n:(∀x y,¬(d= .str x∧ds= [.str y]))→P):P:=by
 by_cases e:∃x y,d= .str x∧ds= [.str y]
 ·obtain⟨x,y,rfl,rfl⟩:=e;cases r;cases rl with
  |cons a t=>cases a;cases t;exact h x y rfl rfl rfl rfl
 ·exact n fun x y z=>e ⟨x,y,z⟩
def bi_9:D→List D→R W
 | .str x, [.str y]=> .ok (.sh (.int (Txt.find x y)))
 |_,_=> .no
theorem cm_0:MtD X "str.find" bi_9:=by
 intro zd s σ H x vs v us Q I rx rv h;obtain⟨EX,G,d,ds,g,r,rl,o⟩:=h;refine cw_3 r rl (fun x y e1 e2 e3 e4=> ?_) fun n=> ?_
 ·subst e1 e2 e3 e4;obtain⟨t,rfl⟩:=rx;obtain⟨u,rfl,t',rfl⟩:=rv.one;exact SC.find ⟨.int _,H,I.tok _,⟨_,rfl⟩,e_4 o g (.int _)⟩
 ·have e:bi_9 d ds= .no:=by
   unfold bi_9
   split
   ·rename_i x y;exact absurd ⟨rfl,rfl⟩ (n x y)
   ·rfl
  rw [e] at o;exact o.elim
def isT(T:String):D→Option Bool
 | .non=>some false
 | .bl _=>some (T == "bool" || T == "int")
 | .int _=>some (T == "int")
 | .str _=>some (T == "str")
 | .lst _=>some (T == "list")
 | .tup _=>some (T == "tuple")
 |_=>none
def eIs(T:String)(f:FE):FE:=fun δ=>(f δ).bind fun w=>match isT T w.d with
 |some k=> .ok (.sh (.bl k))
 |none=> .no
structure KitT(K:Frag)(T:String):Prop where
 non:kitOne K (.type "NoneType") (.type T)=some false
 bl:kitOne K (.type "bool") (.type T)=some (T == "bool" || T == "int")
 int:kitOne K (.type "int") (.type T)=some (T == "int")
 str:kitOne K (.type "str") (.type T)=some (T == "str")
 lst:kitOne K (.type "list") (.type T)=some (T == "list")
 tup:kitOne K (.type "tuple") (.type T)=some (T == "tuple")
theorem cm_1{T:String}(k:KitT X.K T):CallR X (.builtin "isinstance") (fun xs H Q=>∃G x d b,xs= [x, .ty T]∧Same G H∧Has X.K G x d∧isT T d=some b∧Q (.bl b) H):=by
 intro zd s σ H xs us Q I rv h;obtain⟨G,x,d,b,rfl,g,r,e,q⟩:=h;obtain⟨u,u2,rfl,r1,r2⟩:=rv.two;cases r2;have fin:∀tk,EP X zd σ Q (.bool b) {s with toks:=tk}:=fun tk=>⟨.bl b,H,I.tok _,rfl,q⟩;cases r with
 |non=>cases r1;exact kia_one kitx_none I.kIn True.intro (k.non.trans e) (fun z=>nomatch z) fin
 |bl y=>cases r1;exact kia_one kitx_bool I.kIn True.intro (k.bl.trans e) (fun z=>nomatch z) fin
 |int i=>obtain⟨t,rfl⟩:=r1;exact kia_one kitx_int I.kIn True.intro (k.int.trans e) (fun z=>nomatch z) fin
 |str y=>obtain⟨t,rfl⟩:=r1;exact kia_one kitx_str I.kIn True.intro (k.str.trans e) (fun z=>nomatch z) fin
 |lst h r=>
  cases r1;obtain⟨its,_,⟨ob,n,e1,c,_,_⟩,_⟩:=I.list (g.seq h);exact kia_one kitx_list I.kIn ⟨ob,e1,c⟩ (k.lst.trans e) (fun z=>nomatch z) fin
 |tup h r=>
  cases r1;obtain⟨its,_,⟨ob,e1,c,_⟩,_⟩:=I.tuple (Same.tupS g h);exact kia_one kitx_tuple I.kIn ⟨ob,e1,c⟩ (k.tup.trans e) (fun z=>nomatch z) fin
 |exn0 _ _=>cases e
 |exn1 _ _ _ _ _=>cases e
 |dic _ _ _=>cases e
 |obj _ _ _ _=>cases e
theorem aq_4{Tn:Str}{T:String}{pp p3:Pos}(k:KitT X.K T)(ha:ED X EX a f)(hm:X.mg "isinstance" =none)(hmT:X.mg Tn=none)(hvT:bootBuiltins Tn=some (.type T))(hg:Gl X "isinstance" :=by rfl)(hgT:Gl X Tn:=by rfl)
  (hn:Tn≠ "__name__" :=by decide) (hdT:(Tn ==("__debug__" :Str))=false:=by decide)
  (he:starEach [a, .Name Tn p3] X.env=(false,eval a X.env)::starEach [.Name Tn p3] X.env:=by rfl) (hpl:(backTo pos (starEach [.Name Tn p3] X.env)).any (·.1)=false:=by rfl)
  (hs:starEach [.Name Tn p3] X.env=(false,eval (.Name Tn p3) X.env)::starEach [] X.env:=by rfl):ED X EX (.Call (.Name "isinstance" pp) [a, .Name Tn p3] [] pos) (eIs T f):=
 PE.imp (x_8 (cm_1 k) hg hm boot_isinstance (f_6 ha (f_6 (bv_3 (v:= .ty T) hgT hmT hvT rfl hn hdT) m_7 hs) he) (by decide) (by decide) he hpl) fun σ H Q ⟨G,δ,g0,s0,o⟩=>tD.seq g0 s0 o fun w v G1 H1 _ st1 r1 o1=>by
  split at o1
  ·rename_i b e;exact⟨G1,v,w.d,b,rfl,st1.gh,r1,e,e_4 o1 st1.gh (.bl b)⟩
  ·exact o1.elim
end
def aq_5(K:Frag):Sp:=fun vs H Q _=>∃(a:Addr) (ns:List Int),vs= [.ref a]∧SqL K H a (ns.map V.int)∧ns.length≤63∧∀H',Q (.bl true) H'
theorem bx_2{G:Hp}:∀ns:List Int,HasL K G (ns.map V.int) (ns.map D.int)
 | []=> .nil
 |n::ns=> .cons (.int n) (bx_2 ns)
theorem dh_2{P:Program}{w:World}{k:Nat}{f:Addr}{x:Str}{F:List D→R W}(h:FnX P w K mg base true k f fd [x] (spX K 1 F))
  (hF:∀ns:List Int,ns.length≤63→∃v,F [.lst (ns.map D.int)]= .ok v∧v.d= .bl true):FnOk P w K mg base CX0 k f fd [x] (aq_5 K):=by
 have hs:∀vs H Q E,aq_5 K vs H Q E→spX K 1 F vs H Q fun _ _ _=>False:=fun vs H Q E q=>by
  obtain⟨a,ns,rfl,hS,hl,q⟩:=q;obtain⟨v,e,ev⟩:=hF ns hl;refine⟨rfl,H, [.lst (ns.map D.int)],Same.refl _, .cons (.lst hS (bx_2 ns)) .nil, ?_⟩;rw [e];refine WP.intro fun u G' H' st r=> ?_;rw [ev] at r;cases r;exact q H'
 refine⟨fun vs H Q E q=>(hs vs H Q E q).1,fun A outer s H args us vs Q E hr e0 hb hv q=>codeAny_mono (h.run A outer s H args us vs Q _ (RoomC.of hr) e0 hb hv (hs vs H Q E q)) fun r s' hq=> ?_⟩;cases r with
 |error e=>
  obtain⟨a,C,dx,T,H',_,_,_,_,_,_,_,_,_,_,z⟩:=hq;exact z
 |ok fl=>cases fl <;> exact hq
theorem do_4{l:PySem.W.OpenLaw}{q:Program}{loose:List Str}{XP:(Str→Option Value)→Heap→Prop}{YP:World→Heap→Prop}{d:DefRec}{K:Params→Frag}{x:Str}{k:Nat}(hn:l.most=some 63)(hdf:d.params.defaults= [])(hr:Room k callerA)
  (hY:∀(w:World) (h:Heap),YP w h→(K w.params).In h)
  (F:∀(w:World) (mg:Str→Option Value) (fa:Addr) (h:Heap),(K w.params).In h→h.Ns mainGlobals mg→mg d.name=some (.ref fa)→
   ∃fd:FuncData,(∀(s:Shared) (u:Value),BindsTo s fd ⟨[u], []⟩ [(x,u)])∧∀base:Heap,(K w.params).In base→base.Ns mainGlobals mg→FnOk l.prog w (K w.params) mg base CX0 k fa fd [x] (aq_5 (K w.params))):
  PySem.W.WalkO q loose XP YP l.row.toRowW d [] (fun f vs=>PySem.call f vs):=
 cu_2 (n:=63) (k:=k) (x:=x) (CX:=fun _=>CX0) (sp:=fun w=>aq_5 (K w.params)) hn (by decide) hdf hr hY F (fun _ _ a ns hl _ hS=>⟨a,ns,rfl,hS,hl,fun _=>rfl⟩) fun _ _ _ _ _ z=>z
theorem Inv.pair{zd:List (Addr×Obj)}{σ:Sg}{s:Shared}{e it:Addr}{h':Heap}{tk:Nat}{its:List Value}{vs:List V}(I:Inv X zd σ H s)(fe:x_6 X zd H e)(fi:x_6 X zd H it)
  (k:∀b o,b≠e→b≠it→s.heap.get? b=some o→h'.get? b=some o) (he:∃o,h'.get? e=some o) (hi:∃o,h'.get? it=some o) (ht:h'.get? s.heap.objs.size=some {cls:= .type "tuple",data:= .seq its.toArray}) (rv:Vals vs its) (hz:vs.length≤sizeLine):
  Inv X zd σ (upd H s.heap.objs.size (.tup vs)) {s with heap:=h',toks:=tk}:=by
 have hn:H s.heap.objs.size=none:=I.hok.fresh (Nat.le_refl _);obtain⟨e0,e1,e2,e3,e4,e5⟩:=fe;obtain⟨i0,i1,i2,i3,i4,i5⟩:=fi;have neH:∀b u,H b=some u→b≠e∧b≠it:=fun b u q=>⟨fun z=>(by rw [z,e0] at q;cases q),fun z=>(by rw [z,i0] at q;cases q)⟩;have lt:∀b o,s.heap.get? b=some o→b≠s.heap.objs.size:=fun b o q=>Nat.ne_of_lt (Heap.lt_size q);refine I.step (g':=s.gens) (d':=s.drawn) (ch:= [e,it]) (fun b hb=> ?_) (fun b o _ _ hc q _=>k b o (fun z=>hc (by simp [z])) (fun z=>hc (by simp [z])) q)
  (fun b o _ _ hc q _=>⟨o.slots,k b o (fun z=>hc (by simp [z])) (fun z=>hc (by simp [z])) q⟩) (fun b o _ q n=>by rw [a_5 (lt b o q)];exact n) (fun b o hc q=>⟨o,k b o (fun z=>hc (by simp [z])) (fun z=>hc (by simp [z])) q⟩)
  (fun b xs q=>by rw [a_5 (b_9 q hn)];exact q) (fun b o u q=>by rw [a_5 (b_9 q hn)];exact q) (fun b ps q=>⟨#[],by rw [a_5 (b_9 q hn),q];simp⟩) (fun m hm=> ?_) (fun b u q=> ?_) I.bare
 ·have hb':b=e∨b=it:=by simpa using hb
  rcases hb' with rfl|rfl
  ·exact⟨e3,e1,e4,e5⟩
  ·exact⟨i3,i1,i4,i5⟩
 ·obtain⟨o,es,ep,ho,r⟩:=hm;exact⟨o,es,ep,k _ o (Ne.symm e1) (Ne.symm i1) ho,r⟩
 ·by_cases z:b=s.heap.objs.size
  ·subst z;rw [a_9] at q;cases q;exact⟨hz,its,rv,⟨_,ht,rfl,0,rfl⟩⟩
  ·rw [a_5 z] at q;refine(I.hok b u q).stay (fun c v hc r=> ?_) (fun c r=>by rw [a_5 (b_9 r hn)];exact r) fun c xs r=>by rw [a_5 (b_9 r hn)];exact r
   rcases hc with rfl|hc
   ·exact k c v (neH c u q).1 (neH c u q).2 r
   ·exact k c v (neH c _ hc).1 (neH c _ hc).2 r
theorem Inv.turned2{zd:List (Addr×Obj)}{σ:Sg}{s:Shared}{e it:Addr}{h':Heap}{tk:Nat}(I:Inv X zd σ H s)(fe:x_6 X zd H e)(fi:x_6 X zd H it)
  (k:∀b o,b≠e→b≠it→s.heap.get? b=some o→h'.get? b=some o):Inv X zd σ H {s with heap:=h',toks:=tk}:=by
 obtain⟨e0,e1,e2,e3,e4,e5⟩:=fe;obtain⟨i0,i1,i2,i3,i4,i5⟩:=fi;have neH:∀b u,H b=some u→b≠e∧b≠it:=fun b u q=>⟨fun z=>(by rw [z,e0] at q;cases q),fun z=>(by rw [z,i0] at q;cases q)⟩;refine I.step (g':=s.gens) (d':=s.drawn) (ch:= [e,it]) (fun b hb=> ?_) (fun b o _ _ hc q _=>k b o (fun z=>hc (by simp [z])) (fun z=>hc (by simp [z])) q)
  (fun b o _ _ hc q _=>⟨o.slots,k b o (fun z=>hc (by simp [z])) (fun z=>hc (by simp [z])) q⟩) (fun b o _ q n=>n) (fun b o hc q=>⟨o,k b o (fun z=>hc (by simp [z])) (fun z=>hc (by simp [z])) q⟩)
  (fun b xs q=>q) (fun b o u q=>q) (fun b ps q=>⟨#[],by rw [q];simp⟩) (fun m hm=> ?_) (fun b u q=> ?_) I.bare
 ·have hb':b=e∨b=it:=by simpa using hb
  rcases hb' with rfl|rfl
  ·exact⟨e3,e1,e4,e5⟩
  ·exact⟨i3,i1,i4,i5⟩
 ·obtain⟨o,es,ep,ho,r⟩:=hm;exact⟨o,es,ep,k _ o (Ne.symm e1) (Ne.symm i1) ho,r⟩
 ·refine(I.hok b u q).stay (fun c v hc r=> ?_) (fun c r=>r) fun c xs r=>r;rcases hc with rfl|hc
  ·exact k c v (neH c u q).1 (neH c u q).2 r
  ·exact k c v (neH c _ hc).1 (neH c _ hc).2 r
def enL(K:Frag)(l:Addr):It:=
 ⟨fun i H=>∃xs x,SqL K H l xs∧xs[i]? =some x,fun i H v H'=>∃p,H p=none∧v= .ref p∧∀xs x,SqL K H l xs→xs[i]? =some x→H'=upd H p (.tup [.int (i:Int),x]),fun i H=>∃xs,SqL K H l xs∧xs.length=i⟩
def enS(z:Str):It:=
 ⟨fun i _=>i < z.cps.size,fun i H v H'=>∃p c,H p=none∧v= .ref p∧z.cps[i]? =some c∧H'=upd H p (.tup [.int (i:Int), .str ⟨#[c]⟩]),fun i _=>i=z.cps.size⟩
theorem cm_2{P:Program}{w:World}{elts:List Expr}{x1:Nat}(e it l:Addr)(hei:e≠it):Turn P w K (.Tuple elts x1 pos) (enL K l) [e,it] e (fun i h=>(∃old,IsEnum h e it (i:Int) old)∧h.IsListIter it l i) where
 mem:=by simp
 obj:=fun i h st b hb=>by
  have hb':b=e∨b=it:=by simpa using hb
  rcases hb' with rfl|rfl
  ·obtain⟨⟨old,q⟩,_⟩:=st;exact⟨_,q,fun v z=>by cases z⟩
  ·obtain⟨_,⟨o,q,c,d⟩⟩:=st;exact⟨o,q,fun v z=>by rw [d] at z;cases z⟩
 keep:=fun i h h' st k=>by
  obtain⟨⟨old,q⟩,r⟩:=st;exact⟨⟨old,k e (by simp) _ q⟩,r.at fun o z=>k it (by simp) o z⟩
 item:=by
  intro X hP hw hK hc i zd s σ H E I hf st hg;subst hP hw hK;obtain⟨xs,x,hq,hx⟩:=hg;obtain⟨its,rv,p,hz⟩:=I.list hq;obtain⟨u,hu,ru⟩:=rv.get hx;obtain⟨⟨old,he⟩,hit⟩:=st;have fe:=hf e (by simp);have fi:=hf it (by simp);have pl:=p.isList;have nle:l≠e:=fun z=>by
   subst z;obtain⟨o,ho,hc',_⟩:=pl;rw [show s.heap.get? l=_ from he] at ho;cases ho;exact absurd hc' (by simp)
  have nli:l≠it:=fun z=>by
   subst z;obtain⟨o,ho,hc',_⟩:=pl;obtain⟨o',ho',hc2,_⟩:=hit;rw [ho] at ho';cases ho';rw [hc'] at hc2;exact absurd hc2 (by simp)
  have hlt:i < its.toArray.size:=by
   have:=(List.getElem?_eq_some_iff.mp hu).1;simpa using this
  refine wpAny_pyNext_enum_itemD (Draws.list (A:=X.A.in1) (I.ok.hd hc) it l nli its.toArray) he ⟨hit,pl⟩ hlt hei (by simp [hei,Ne.symm nle]) fun y h' tk hy ho hst bj hsz kk=> ?_;have ey:y=u:=by
   have:its.toArray[i]? =some u:=by simpa using hu
   rw [this] at hy;exact(Option.some.inj hy).symm
  subst ey;refine⟨_,rfl,wpAny_letOwnedTupleGo_enum ho fun h'' bb sb=> ?_⟩;have ax:∃old,IsEnum h'' e it ((i + 1:Nat):Int) old:=⟨_,by
   have e1:((i + 1:Nat):Int)=(i:Int) + 1:=by omega
   rw [e1];exact bb⟩
  refine⟨.ref s.heap.objs.size,upd H s.heap.objs.size (.tup [.int (i:Int),x]), ?_,rfl,⟨_,I.hok.fresh (Nat.le_refl _),rfl,fun ys y' hy' ey'=> ?_⟩,⟨ax, ?_⟩,fun b hb=> ?_⟩
  ·have ne:s.heap.objs.size≠e:=fun z=>absurd (Heap.lt_size he) (by rw [←z];exact Nat.lt_irrefl _);refine Inv.pair (its:= [.int (i:Int) tk,y]) I fe fi (fun b o h1 h2 q=>(sb.2 b h1).trans (kk b o h1 h2 q)) ⟨_,bb⟩ ?_ ((sb.2 _ ne).trans bj) (.cons ⟨_,rfl⟩ (.cons ru .nil)) (by show 2≤sizeLine;decide);obtain⟨⟨o,q,_⟩,_⟩:=hst;exact⟨o,(sb.2 it (Ne.symm hei)).trans q⟩
  ·have:=I.list_inj hy' hq;subst this;rw [hx] at ey';cases ey';rfl
  ·exact hst.1.at fun o z=>(sb.2 it (Ne.symm hei)).trans z
  ·have hb':b=e∨b=it:=by simpa using hb
   have hbl:b < s.heap.objs.size:=by
    rcases hb' with rfl|rfl
    ·exact Heap.lt_size he
    ·obtain⟨o,q,_⟩:=hit;exact Heap.lt_size q
   rw [a_5 (Nat.ne_of_lt hbl)];exact(hf b hb).1
 done:=by
  intro X hP hw hK hc i zd s σ H E I hf st hg;subst hP hw hK;obtain⟨xs,hq,hx⟩:=hg;obtain⟨its,rv,p,hz⟩:=I.list hq;obtain⟨⟨old,he⟩,hit⟩:=st;have hl:=rv.length;have pl:=p.isList;have nli:l≠it:=fun z=>by
   subst z;obtain⟨o,ho,hc',_⟩:=pl;obtain⟨o',ho',hc2,_⟩:=hit;rw [ho] at ho';cases ho';rw [hc'] at hc2;exact absurd hc2 (by simp)
  have en:i=its.toArray.size:=by simp;omega
  refine wpAny_pyNext_enum_endD (Draws.list (A:=X.A.in1) (I.ok.hd hc) it l nli its.toArray) he (by rw [←en];exact⟨hit,pl⟩) fun h' eb=>⟨rfl, ?_⟩;exact Inv.turned2 (tk:=s.toks) I (hf e (by simp)) (hf it (by simp)) fun b o h1 h2 q=>eb b o h2 q
 self:=fun A i s Q E st h=>by
  obtain⟨⟨old,he⟩,_⟩:=st;exact wpAny_pyIter_enum he h
theorem ay_0{prog:Program}{w:World}{A:Around}(hh:A.handled=none)(it:Addr)(x:Str)(t:Tok):
  Draws prog w A it [it] x.cps.size (fun i v=>∃c u,x.cps[i]? =some c∧v= .str ⟨#[c]⟩ u) (fun i h=>h.IsStrIter it (strIterType x) x t i):=by
 unfold strIterType;cases ha:x.cps.all (· < 128)
 ·exact Draws.strWide hh it x t
 ·exact Draws.strAscii hh it x t
theorem cm_3{P:Program}{w:World}{elts:List Expr}{x1:Nat}(e it:Addr)(z:Str)(t:Tok)(hei:e≠it):Turn P w K (.Tuple elts x1 pos) (enS z) [e,it] e (fun i h=>(∃old,IsEnum h e it (i:Int) old)∧h.IsStrIter it (strIterType z) z t i) where
 mem:=by simp
 obj:=fun i h st b hb=>by
  have hb':b=e∨b=it:=by simpa using hb
  rcases hb' with rfl|rfl
  ·obtain⟨⟨old,q⟩,_⟩:=st;exact⟨_,q,fun v z=>by cases z⟩
  ·obtain⟨_,⟨o,q,c,d⟩⟩:=st;exact⟨o,q,fun v z=>by rw [d] at z;cases z⟩
 keep:=fun i h h' st k=>by
  obtain⟨⟨old,q⟩,⟨o,r,c⟩⟩:=st;exact⟨⟨old,k e (by simp) _ q⟩,⟨o,k it (by simp) o r,c⟩⟩
 item:=by
  intro X hP hw hK hc i zd s σ H E I hf st hg;subst hP hw hK;obtain⟨⟨old,he⟩,hit⟩:=st;have fe:=hf e (by simp);have fi:=hf it (by simp);refine wpAny_pyNext_enum_itemD (ay_0 (A:=X.A.in1) (I.ok.hd hc) it z t) he hit hg hei (by simp [hei]) fun y h' tk hy ho hst bj hsz kk=> ?_;obtain⟨c,uc,hcx,rfl⟩:=hy;refine⟨_,rfl,wpAny_letOwnedTupleGo_enum ho fun h'' bb sb=> ?_⟩;have ax:∃old,IsEnum h'' e it ((i + 1:Nat):Int) old:=⟨_,by
   have e1:((i + 1:Nat):Int)=(i:Int) + 1:=by omega
   rw [e1];exact bb⟩
  refine⟨.ref s.heap.objs.size,upd H s.heap.objs.size (.tup [.int (i:Int), .str ⟨#[c]⟩]), ?_,rfl,⟨_,c,I.hok.fresh (Nat.le_refl _),rfl,hcx,rfl⟩,⟨ax, ?_⟩,fun b hb=> ?_⟩
  ·have ne:s.heap.objs.size≠e:=fun z=>absurd (Heap.lt_size he) (by rw [←z];exact Nat.lt_irrefl _);refine Inv.pair (its:= [.int (i:Int) tk, .str ⟨#[c]⟩ uc]) I fe fi (fun b o h1 h2 q=>(sb.2 b h1).trans (kk b o h1 h2 q)) ⟨_,bb⟩ ?_ ((sb.2 _ ne).trans bj) (.cons ⟨_,rfl⟩ (.cons ⟨_,rfl⟩ .nil)) (by show 2≤sizeLine;decide);obtain⟨o,q,_⟩:=hst;exact⟨o,(sb.2 it (Ne.symm hei)).trans q⟩
  ·obtain⟨o,q,r⟩:=hst;exact⟨o,(sb.2 it (Ne.symm hei)).trans q,r⟩
  ·have hb':b=e∨b=it:=by simpa using hb
   have hbl:b < s.heap.objs.size:=by
    rcases hb' with rfl|rfl
    ·exact Heap.lt_size he
    ·obtain⟨o,q,_⟩:=hit;exact Heap.lt_size q
   rw [a_5 (Nat.ne_of_lt hbl)];exact(hf b hb).1
 done:=by
  intro X hP hw hK hc i zd s σ H E I hf st hg;subst hP hw hK;obtain⟨⟨old,he⟩,hit⟩:=st;have en:i=z.cps.size:=hg;refine wpAny_pyNext_enum_endD (ay_0 (A:=X.A.in1) (I.ok.hd hc) it z t) he (by rw [←en];exact hit) fun h' eb=>⟨rfl, ?_⟩;exact Inv.turned2 (tk:=s.toks) I (hf e (by simp)) (hf it (by simp)) fun b o h1 h2 q=>eb b o h2 q
 self:=fun A i s Q E st h=>by
  obtain⟨⟨old,he⟩,_⟩:=st;exact wpAny_pyIter_enum he h
def x_3(k:Nat):List D→List D
 | []=> []
 |d::ds=> .tup [.int (k:Int),d]::x_3 (k + 1) ds
theorem aa_4:∀{ds:List D} {k i:Nat} {d:D},(x_3 k ds)[i]? =some d→∃d',ds[i]? =some d'∧d= .tup [.int ((k + i:Nat):Int),d']
 | [],_,_,_,h=>by simp [x_3] at h
 |x::ds,k,0,d,h=>by simp [x_3] at h;exact⟨x,rfl,h.symm⟩
 |x::ds,k,i + 1,d,h=>by
  obtain⟨d',e1,e2⟩:=aa_4 (ds:=ds) (k:=k + 1) (i:=i) (by simpa [x_3] using h);exact⟨d',by simpa using e1,by rw [e2,show k + 1 + i=k + (i + 1) by omega]⟩
theorem aa_5:∀(ds:List D) (k:Nat),(x_3 k ds).length=ds.length
 | [],_=>rfl
 |_::ds,k=>by simp [x_3,aa_5 ds (k + 1)]
def dh_3:D→R (List D)
 | .lst ds=> .ok (x_3 0 ds)
 | .str x=> .ok (x_3 0 (r_7 x))
 |_=> .no
section
variable{X:Cx}{EX:EXS}{a:Expr}{f:FE}{elts:List Expr}{x1:Nat}{tp p pos:Pos}
def iEn(K:Frag)(t:TA):TI:=fun σ H Q=>t σ H fun vs H1=>(∃l,vs= [.ref l]∧(∃xs,SqL K H1 l xs)∧Q (enL K l) H1)∨(∃z,vs= [.str z]∧Q (enS z) H1)
theorem cw_4{ta:TA}(hg:Gl X "enumerate")(hm:X.mg "enumerate" =none)(ha:PA X [a] ta)(hs:starEach [a] X.env= [(false,eval a X.env)]:=by rfl):PI X (.Tuple elts x1 tp) (.Call (.Name "enumerate" p) [a] [] pos) (iEn X.K ta):=by
 intro zd s σ H Q I h;refine Call_ (ad_6 I hg hm PyProof.Rows.boot_enumerate (PyProof.Rows.callWith_type1 (thn (ha pos zd s σ H _ I h) fun us s1 ⟨vs,H1,I1,r1,q1⟩=> ?_) hs rfl));rcases q1 with⟨l,rfl,⟨xs,hq⟩,q⟩|⟨z,rfl,q⟩
 ·obtain⟨u,rfl,ru⟩:=r1.one;cases ru;obtain⟨its,rv,pl,hz⟩:=I1.list hq;refine call_enumerate_list pl.isList fun h' he hit hsz kk=>wpAny_pyIter_enum he ?_;refine⟨s1.heap.objs.size + 1, [s1.heap.objs.size + 1,s1.heap.objs.size],_,enL X.K l,H1,rfl,I1.kept (t':=s1.toks) kk,cm_2 _ _ l (Nat.succ_ne_self _),⟨⟨_,he⟩,hit⟩,fun b hb=> ?_,q⟩;have hb':b=s1.heap.objs.size + 1∨b=s1.heap.objs.size:=by simpa using hb
  have hbl:s1.heap.objs.size≤b:=by
   rcases hb' with rfl|rfl
   ·exact Nat.le_succ _
   ·exact Nat.le_refl _
  exact I1.fpOk hbl (I1.hok.fresh hbl)
 ·obtain⟨u,rfl,t,rfl⟩:=r1.one;refine call_enumerate_str fun h' he hit hsz kk=>wpAny_pyIter_enum he ?_;refine⟨s1.heap.objs.size + 1, [s1.heap.objs.size + 1,s1.heap.objs.size],_,enS z,H1,rfl,I1.kept (t':=s1.toks) kk,cm_3 _ _ z t (Nat.succ_ne_self _),⟨⟨_,he⟩,hit⟩,fun b hb=> ?_,q⟩;have hb':b=s1.heap.objs.size + 1∨b=s1.heap.objs.size:=by simpa using hb
  have hbl:s1.heap.objs.size≤b:=by
   rcases hb' with rfl|rfl
   ·exact Nat.le_succ _
   ·exact Nat.le_refl _
  exact I1.fpOk hbl (I1.hok.fresh hbl)
theorem cw_5{G:Hp}{l:Addr}{vs:List V}{ds:List D}(h:SqL K G l vs)(r:HasL K G vs ds):ItD K G (enL K l) (x_3 0 ds):=fun G' H g1 g i=>by
 refine⟨fun d e=> ?_,fun e=> ?_⟩
 ·obtain⟨d',e1,rfl⟩:=aa_4 e;obtain⟨v,e2,hv⟩:=r.get e1;refine⟨⟨vs,v,(g1.trans g).seq h,e2⟩,fun x H' y=> ?_⟩;obtain⟨p,hp,rfl,y⟩:=y;have:=y vs v ((g1.trans g).seq h) e2;subst this;refine⟨_,Step.new g hp _, .tup (SqT.of a_9) (.cons (by rw [Nat.zero_add];exact .int _) (.cons (hv.mono (g1.trans (k_5 (g.free hp) _))) .nil))⟩
 ·rw [aa_5] at e;exact⟨vs,(g1.trans g).seq h,by rw [r.length];exact e⟩
theorem cw_6{G:Hp}(z:Str):ItD K G (enS z) (x_3 0 (r_7 z)):=fun G' H g1 g i=>by
 refine⟨fun d e=> ?_,fun e=> ?_⟩
 ·obtain⟨d',e1,rfl⟩:=aa_4 e;unfold r_7 at e1;rw [List.getElem?_map] at e1;cases q:z.cps.toList[i]? with
  |none=>rw [q] at e1;cases e1
  |some c=>
   rw [q] at e1;cases e1;have hi:i < z.cps.size:=by
    have:=(List.getElem?_eq_some_iff.mp q).1;simpa using this
   refine⟨hi,fun x H' y=> ?_⟩;obtain⟨p,c',hp,rfl,hc,rfl⟩:=y;have:z.cps.toList[i]? =some c':=by simpa using hc
   rw [q] at this;cases this;refine⟨_,Step.new g hp _, .tup (SqT.of a_9) (.cons (by rw [Nat.zero_add];exact .int _) (.cons (.str _) .nil))⟩
 ·rw [aa_5] at e;unfold r_7 at e;rw [List.length_map] at e;show i=z.cps.size;simp at e;omega
end
def C3(i j c:Int):Prop:=0≤i∧i.natAbs < 1073741824∧j.natAbs < 1073741824∧0 < c∧c.natAbs < 1073741824
instance (i j c:Int):Decidable (C3 i j c):=by unfold C3;exact inferInstance
section
variable{X:Cx}{EX:EXS}{tg a b c:Expr}{fa:FA}{ta:TA}{p pos:Pos}
end
section
variable{X:Cx}{EX:EXS}{a:Expr}{f:FE}{pos:Pos}
def negD:D→R W
 | .int i=> .ok (.sh (.int (-i)))
 |_=> .no
def eNeg(f:FE):FE:=fun δ=>(f δ).bind fun w=>negD w.d
theorem bc_8(ha:ED X EX a f):ED X EX (.UnaryOp .USub a pos) (eNeg f):=
 PE.imp (dm_2 de_9 ha) fun σ H Q ⟨G,δ,g0,s0,o⟩=>tD.seq g0 s0 o fun w v G1 H1 _ st1 r1 o1=>by
  revert r1 o1;cases w.d with
  |int i=>intro r1 o1;cases r1;exact⟨i,rfl,e_4 o1 st1.gh (.int _)⟩
  |_=>intro _ o1;exact False.elim o1
def y_2:List D→Option (List Bool)
 | []=>some []
 | .bl b::ds=>(y_2 ds).map (b:: ·)
 |_=>none
def allD:List D→R W
 | [.lst ds]=>match y_2 ds with
  |some bs=> .ok (.sh (.bl (bs.all id)))
  |none=> .no
 |_=> .no
theorem bj_0{G:Hp}:∀{vs:List V} {ds:List D} {us:List Value} {bs:List Bool},HasL K G vs ds→Vals vs us→y_2 ds=some bs→us=bs.map Value.bool
 |_,_,_,_, .nil,r,e=>by cases r;cases e;rfl
 |_,_,_,_, .cons h t,r,e=>by
  cases r with
  |cons r1 r2=>
   cases h with
   |bl x=>
    cases r1;simp only [y_2] at e;obtain⟨zs,q,rfl⟩:=Option.map_eq_some_iff.mp e;rw [List.map_cons,bj_0 t r2 q]
   |_=>cases e
theorem ce_2(bs:List Bool):(List.range bs.length).all (fun i=>bs.getD i true)=bs.all id:=by
 rw [Bool.eq_iff_iff,List.all_eq_true,List.all_eq_true];constructor
 ·intro h b hb;obtain⟨i,hi,e⟩:=List.getElem_of_mem hb;have:=h i (List.mem_range.mpr hi);simp [hi] at this;rw [←e];exact this
 ·intro h i hi;have hi:=List.mem_range.mp hi;simp [hi];exact h _ (List.getElem_mem hi)
theorem ce_3(hc:X.calm=true):ac_3 X (.builtin "all") allD:=by
 intro zd s σ H vs us Q I rv q;obtain⟨EX,G,ds,g,r,o⟩:=q;cases r with
 |nil=>exact False.elim o
 |cons h t=>
  cases t with
  |cons _ _=>cases h <;> exact False.elim o
  |nil=>
   cases h with
   |lst h r=>
    rename_i l _ _;simp only [allD] at o
    split at o
    ·rename_i bs e;obtain⟨u,rfl,ru⟩:=rv.one;cases ru;obtain⟨its,rv',pl,hz⟩:=I.list (g.seq h);have eb:=bj_0 r rv' e;subst eb;have nl:l≠s.heap.objs.size:=fun z=>by
      obtain⟨o',ho,_⟩:=pl.isList;exact absurd (Heap.lt_size ho) (by rw [←z];exact Nat.lt_irrefl _)
     refine call_all_walk (wpAny_pyIter_list pl.isList ⟨s.heap.objs.size,_,_,_,_,_,fun i=>bs.getD i true,rfl,Walks.list (A:=X.A.in1) (I.ok.hd hc) s.heap.objs.size l nl (bs.map Value.bool).toArray,⟨⟨_,Heap.get?_push_size _ rfl,rfl,rfl⟩, ?_⟩,fun i v s' Q' E' hP hQ=> ?_,fun h' tk kk=> ?_⟩)
     ·exact pl.isList.at fun o z=>Heap.get?_push_of_some _ z
     ·have hP':(bs.map Value.bool)[i]? =some v:=by simpa using hP
      rw [List.getElem?_map] at hP';cases q:bs[i]? with
      |none=>rw [q] at hP';cases hP'
      |some b=>
       rw [q] at hP';cases hP';have:bs.getD i true=b:=by simp [List.getD,q]
       dsimp only at hQ;rw [this] at hQ;exact wpAny_truthy_bool hQ
     ·have en:(bs.map Value.bool).toArray.size=bs.length:=by simp
      rw [en,ce_2];refine⟨.bl _,H,I.kept (t':=tk) fun b o' z=>kk b o' (by
       have hb:b≠s.heap.objs.size:=Nat.ne_of_lt (Heap.lt_size z);simpa using hb) (Heap.get?_push_of_some _ z),rfl,e_4 o g (.bl _)⟩
    ·exact o.elim
   |_=>exact False.elim o
end
section
variable{prog:Program}{w:World}{A:Around}{E:Value→Shared→Prop}{s:Shared}
end
section
variable{X:Cx}{EX:EXS}{pos:Pos}
theorem HasS.skip{G:Hp}{σ:Sg}{δ:DE}{i:Nat}(h:HasS K G σ δ)(e:δ[i]? =some none):HasS K G (σ.set i (some v)) δ:=by
 refine⟨by rw [List.length_set];exact h.len,fun j d' e'=> ?_⟩;obtain⟨v',e1,r'⟩:=h.get j d' e';refine⟨v', ?_,r'⟩;rw [List.getElem?_set_ne]
 ·exact e1
 ·rintro rfl
  rw [e] at e';cases e'
end
section
variable{X:Cx}{EX:EXS}
def nonB:D→Bool
 | .non=>true
 |_=>false
def isND(neg:Bool):D→D→R W
 |d, .non=> .ok (.sh (.bl (if neg then !nonB d else nonB d)))
 |_,_=> .no
theorem dh_5{G:Hp}{d:D}(r:Has K G v d):decide (v= .non)=nonB d:=by
 cases r <;> rfl
theorem cm_4:OpD X (compareOp .IsNot) (isND true):=by
 intro zd s σ H x y v u Q I rx ry q;obtain⟨EX,G,a,b,g,ra,rb,o⟩:=q;cases rb with
 |non=>exact ct_1 zd s σ H _ _ _ _ Q I rx ry ⟨rfl,by rw [dh_5 ra];exact e_4 o g (.bl _)⟩
 |_=>exact False.elim o
end
section
variable{X:Cx}{EX:EXS}{tg a b:Expr}{f g:FE}{fa:FA}{p pos:Pos}
theorem HasL.rep{G:Hp}{vs:List V}{ds:List D}(r:HasL K G vs ds):∀n:Nat,HasL K G (List.replicate n vs).flatten (List.replicate n ds).flatten
 |0=> .nil
 |n + 1=>by rw [List.replicate_succ,List.replicate_succ,List.flatten_cons,List.flatten_cons];exact r.append (HasL.rep r n)
def repD(ds:List D):D→R W
 | .int k=>if k.natAbs < 4611686018427387904∧ds.length * k.toNat≤16777216 then .ok (.ow (.lst (List.replicate k.toNat ds).flatten)) else .no
 |_=> .no
def eRep(fa:FA)(f:FE):FE:=fun δ=>(fa δ).bind fun ds=>if ds.length≤16777216 then(f δ).bind fun w=>repD ds w.d else .no
theorem dh_6{es:List Expr}{dk:Pos}(ha:AD X EX es fa)(hb:ED X EX b f):ED X EX (.BinOp (.List es dk) .Mult b pos) (eRep fa f):=
 PE.imp (db_8 df_7 (bq_4 ha) hb) fun σ H Q ⟨G,δ,g0,s0,o⟩=>tDa.seq g0 s0 o fun ds vs G' H' _ st r o'=>by
  split at o'
  ·rename_i hz;refine⟨by rw [r.length,sizeLine_eq];exact hz,fun q hq=> ?_⟩;have so:=Step.own st.gh hq (.lst vs);refine tD.seq so.gh (s0.mono st.gg) (Out.mono so o') fun w v G2 H2 _ st2 r2 o2=> ?_;revert r2 o2;cases w.d with
   |int k=>
    intro r2 o2;cases r2;simp only [repD] at o2
    split at o2
    ·rename_i hk;exact⟨q,k,vs,rfl,rfl,st2.hh _ _ a_9,by have:=hk.1;omega,by have:=hk.1;omega,by rw [r.length,sizeLine_eq];exact hk.2,v_7 o2 st2.gh ((r.mono st2.gg).rep k.toNat)⟩
    ·exact o2.elim
   |_=>intro _ o2;exact False.elim o2
  ·exact o'.elim
def ay_1:List D→Option (List Int)
 | []=>some []
 | .int i::ds=>(ay_1 ds).map (i:: ·)
 |_=>none
def sumD:List D→R W
 | [.lst ds]=>match ay_1 ds with
  |some is=> .ok (.sh (.int is.sum))
  |none=> .no
 |_=> .no
theorem bx_3{G:Hp}:∀{vs:List V} {ds:List D} {us:List Value} {is:List Int},HasL K G vs ds→Vals vs us→ay_1 ds=some is→us.length=is.length∧∀(j:Nat) (v:Value),us[j]? =some v→∃t,v= .int (is.getD j 0) t
 |_,_,_,_, .nil,r,e=>by cases r;cases e;exact⟨rfl,fun j v h=>by simp at h⟩
 |_,_,_,_, .cons h t,r,e=>by
  cases r with
  |cons r1 r2=>
   cases h with
   |int x=>
    obtain⟨tk,rfl⟩:=r1;simp only [ay_1] at e;obtain⟨zs,q,rfl⟩:=Option.map_eq_some_iff.mp e;obtain⟨h1,h2⟩:=bx_3 t r2 q;refine⟨by simp [h1],fun j v hj=> ?_⟩;cases j with
    |zero=>simp at hj;subst hj;exact⟨tk,rfl⟩
    |succ j=>
     obtain⟨t',e'⟩:=h2 j v (by simpa using hj);exact⟨t',by rw [e'];simp⟩
   |_=>cases e
theorem ak_4(is:List Int):∀j,preSum (fun i=>is.getD i 0) j=(is.take j).sum
 |0=>by simp [preSum]
 |j + 1=>by rw [preSum,ak_4 is j,PySem.sum_take_succ]
theorem ce_4(hc:X.calm=true):ac_3 X (.builtin "sum") sumD:=by
 intro zd s σ H vs us Q I rv q;obtain⟨EX,G,ds,g,r,o⟩:=q;cases r with
 |nil=>exact False.elim o
 |cons h t=>
  cases t with
  |cons _ _=>cases h <;> exact False.elim o
  |nil=>
   cases h with
   |lst h r=>
    rename_i l _ _;simp only [sumD] at o
    split at o
    ·rename_i is e;obtain⟨u,rfl,ru⟩:=rv.one;cases ru;obtain⟨its,rv',pl,hz⟩:=I.list (g.seq h);obtain⟨el,ev⟩:=bx_3 r rv' e;have nl:l≠s.heap.objs.size:=fun z=>by
      obtain⟨o',ho,_⟩:=pl.isList;exact absurd (Heap.lt_size ho) (by rw [←z];exact Nat.lt_irrefl _)
     have ll:l < s.heap.objs.size:=by
      obtain⟨o',ho,_⟩:=pl.isList;exact Heap.lt_size ho
     refine call_sum_walkAnyS (wpAny_pyIter_list pl.isList ⟨s.heap.objs.size,_,_,_,_,_,_,fun i=>is.getD i 0,rfl,(Walks.list (A:=X.A.in1) (I.ok.hd hc) s.heap.objs.size l nl its.toArray).toS,⟨⟨_,Heap.get?_push_size _ rfl,rfl,rfl⟩, ?_⟩,fun b hb=> ?_,fun i v hP=>ev i v (by simpa using hP),fun s' t' mv=> ?_⟩)
     ·exact pl.isList.at fun o z=>Heap.get?_push_of_some _ z
     ·rw [Heap.size_push];have hb':b=s.heap.objs.size∨b=l:=by simpa using hb
      rcases hb' with rfl|rfl
      ·exact Nat.lt_succ_self _
      ·exact Nat.lt_succ_of_lt ll
     ·have en:its.toArray.size=is.length:=by simp [el]
      rw [en,ak_4,List.take_length];obtain⟨m1,m2,m3,m4,m5⟩:=mv;have e':s'={s with heap:=s'.heap,toks:=s'.toks}:=by
       cases s';simp only at m2 m3 m4;subst m2 m3 m4;rfl
      rw [e'];refine⟨.int _,H,I.kept (t':=s'.toks) fun b o' z=>m1 b o' (by
       have hb:b≠s.heap.objs.size:=Nat.ne_of_lt (Heap.lt_size z);simpa using hb) (Heap.get?_push_of_some _ z),⟨t',rfl⟩,e_4 o g (.int _)⟩
    ·exact o.elim
   |_=>exact False.elim o
end
@[elab_as_elim] theorem aq_7{P:List Value→Prop}{us:List Value}{n:Nat}(h:us.length=n)(k:∀y:Nat→Value,P ((List.range n).map y)):P us:=by
 have e:us=(List.range n).map fun i=>us.getD i .none:=by
  apply List.ext_getElem?;intro i;rw [List.getElem?_map]
  by_cases hi:i < n
  ·rw [List.getElem?_range hi,Option.map_some,List.getD_eq_getElem?_getD,List.getElem?_eq_getElem (by omega)];rfl
  ·rw [List.getElem?_eq_none (by omega),List.getElem?_eq_none (by rw [List.length_range];omega)];rfl
 rw [e];exact k _
section
variable{K:Frag}{x qual:Str}{st:Stmt}{f:Addr}{fd:FuncData}{ps:List Str}
theorem Fun.binds1(F:Fun K x qual st f fd)(hl:ps.length=1:=by rfl)(h:∀(kV doc pm:Value) (an:Option Addr) (zp ct a:Value),bindArgs (fnOf x qual (j_8 st) (f_4 st) (b_5 st) .none kV doc pm an zp ct) ⟨[a], []⟩=pure (ps.zip [a]):=by intros;rfl):Binds K fd ps []:=
 F.binds fun kV doc pm an zp ct us hu=>aq_7 (hu.trans hl) fun y=>h kV doc pm an zp ct (y 0)
theorem Fun.binds2(F:Fun K x qual st f fd)(hl:ps.length=2:=by rfl)(h:∀(kV doc pm:Value) (an:Option Addr) (zp ct a b:Value),bindArgs (fnOf x qual (j_8 st) (f_4 st) (b_5 st) .none kV doc pm an zp ct) ⟨[a,b], []⟩=pure (ps.zip [a,b]):=by intros;rfl):Binds K fd ps []:=
 F.binds fun kV doc pm an zp ct us hu=>aq_7 (hu.trans hl) fun y=>h kV doc pm an zp ct (y 0) (y 1)
theorem Fun.binds3(F:Fun K x qual st f fd)(hl:ps.length=3:=by rfl)(h:∀(kV doc pm:Value) (an:Option Addr) (zp ct a b c:Value),bindArgs (fnOf x qual (j_8 st) (f_4 st) (b_5 st) .none kV doc pm an zp ct) ⟨[a,b,c], []⟩=pure (ps.zip [a,b,c]):=by intros;rfl):Binds K fd ps []:=
 F.binds fun kV doc pm an zp ct us hu=>aq_7 (hu.trans hl) fun y=>h kV doc pm an zp ct (y 0) (y 1) (y 2)
theorem Fun.binds4(F:Fun K x qual st f fd)(hl:ps.length=4:=by rfl)(h:∀(kV doc pm:Value) (an:Option Addr) (zp ct a b c d:Value),bindArgs (fnOf x qual (j_8 st) (f_4 st) (b_5 st) .none kV doc pm an zp ct) ⟨[a,b,c,d], []⟩=pure (ps.zip [a,b,c,d]):=by intros;rfl):Binds K fd ps []:=
 F.binds fun kV doc pm an zp ct us hu=>aq_7 (hu.trans hl) fun y=>h kV doc pm an zp ct (y 0) (y 1) (y 2) (y 3)
theorem Fun.binds5(F:Fun K x qual st f fd)(hl:ps.length=5:=by rfl)(h:∀(kV doc pm:Value) (an:Option Addr) (zp ct a b c d e:Value),bindArgs (fnOf x qual (j_8 st) (f_4 st) (b_5 st) .none kV doc pm an zp ct) ⟨[a,b,c,d,e], []⟩=pure (ps.zip [a,b,c,d,e]):=by intros;rfl):Binds K fd ps []:=
 F.binds fun kV doc pm an zp ct us hu=>aq_7 (hu.trans hl) fun y=>h kV doc pm an zp ct (y 0) (y 1) (y 2) (y 3) (y 4)
end
structure ZApart(z TI TO i1 i2:Addr):Prop where
 TIz:TI≠z
 TOz:TO≠z
 i1z:i1≠z
 i2z:i2≠z
 TITO:TI≠TO
 TIi1:TI≠i1
 TIi2:TI≠i2
 TOi1:TO≠i1
 TOi2:TO≠i2
 i12:i1≠i2
section
variable{X:Cx}{EX:EXS}{a b:Expr}{fa:FA}{elts:List Expr}{x1:Nat}{tp p pos:Pos}
end
def met(is:List Int):List Int:=PyProof.Rows.firstMet (fun i=>is.getD i 0) is.length
section
variable{X:Cx}{EX:EXS}{a:Expr}{f:FE}{p p' pos pos':Pos}
end
def q_4:D→Option Key
 | .int i=>some (.inl i)
 | .str x=>some (.inr x)
 |_=>none
theorem t_8{G:Hp}{d:D}{k:Key}(r:Has K G v d)(e:q_4 d=some k):v=kV k:=by
 cases r <;> first|(cases e;rfl)|cases e
section
variable{α:Type}
def f_0(kvs:List (Key×α))(k:Key):Option α:=(kvs.find? fun kv=>decide (kv.1=k)).map (·.2)
def o_2(kvs:List (Key×α))(k:Key)(v:α):List (Key×α):=if(kvs.any fun kv=>decide (kv.1=k))=true then kvs.map (fun kv=>if kv.1=k then(kv.1,v) else kv) else kvs ++ [(k,v)]
def n_2(kvs:List (Key×α))(k:Key):List (Key×α):=kvs.filter fun kv=>decide (kv.1≠k)
def m_8(kvs:List (Key×α))(k:Key):Bool:=(f_0 kvs k).isSome
end
theorem bx_4(kvs:List (Key×V))(k:Key)(v:V):q_3 kvs k v=o_2 kvs k v:=rfl
theorem w_0{G:Hp}:∀{kvs:List (Key×V)} {kds:List (Key×D)} (k:Key),kvs.map (·.1)=kds.map (·.1)→HasL K G (kvs.map (·.2)) (kds.map (·.2))→(j_9 kvs k).isSome=m_8 kds k∧∀d,f_0 kds k=some d→∃v,j_9 kvs k=some v∧Has K G v d
 | [], [],k,_,_=>⟨rfl,fun d e=>by cases e⟩
 | [],_::_,k,e,_=>by simp at e
 |_::_, [],k,e,_=>by simp at e
 |(x,v)::kvs,(y,d)::kds,k,e,r=>by
  simp only [List.map_cons,List.cons.injEq] at e;obtain⟨e1,e2⟩:=e;subst e1;cases r with
  |cons h r=>
   obtain⟨i1,i2⟩:=w_0 (kvs:=kvs) (kds:=kds) k e2 r
   by_cases q:x=k
   ·have a1:j_9 ((x,v)::kvs) k=some v:=j_0 q;have a2:f_0 ((x,d)::kds) k=some d:=by unfold f_0;rw [List.find?_cons_of_pos (by simpa using q)];rfl
    refine⟨by unfold m_8;rw [a1,a2];rfl,fun d' e'=> ?_⟩;rw [a2] at e';cases e';exact⟨v,a1,h⟩
   ·have a1:j_9 ((x,v)::kvs) k=j_9 kvs k:=h_8 q;have a2:f_0 ((x,d)::kds) k=f_0 kds k:=by unfold f_0;rw [List.find?_cons_of_neg (by simpa using q)]
    refine⟨by unfold m_8 at i1⊢;rw [a1,a2];exact i1,fun d' e'=> ?_⟩;rw [a2] at e';rw [a1];exact i2 d' e'
theorem bj_1{α β:Type}:∀{kvs:List (Key×α)} {kds:List (Key×β)} (k:Key),kvs.map (·.1)=kds.map (·.1)→(kvs.any fun kv=>decide (kv.1=k))=kds.any fun kv=>decide (kv.1=k)
 | [], [],_,_=>rfl
 | [],_::_,k,e=>by simp at e
 |_::_, [],k,e=>by simp at e
 |(x,v)::kvs,(y,d)::kds,k,e=>by
  simp only [List.map_cons,List.cons.injEq] at e;obtain⟨e1,e2⟩:=e;subst e1;rw [List.any_cons,List.any_cons,bj_1 k e2]
theorem bx_5{G:Hp}{kvs:List (Key×V)}{kds:List (Key×D)}(k:Key){d:D}(e:kvs.map (·.1)=kds.map (·.1))(r:HasL K G (kvs.map (·.2)) (kds.map (·.2)))(h:Has K G v d):
  (q_3 kvs k v).map (·.1)=(o_2 kds k d).map (·.1)∧HasL K G ((q_3 kvs k v).map (·.2)) ((o_2 kds k d).map (·.2)):=by
 rw [bx_4];unfold o_2;rw [bj_1 k e]
 split
 ·have all:∀{kvs:List (Key×V)} {kds:List (Key×D)},kvs.map (·.1)=kds.map (·.1)→HasL K G (kvs.map (·.2)) (kds.map (·.2))→
    (kvs.map (fun kv=>if kv.1=k then(kv.1,v) else kv)).map (·.1)=(kds.map (fun kv=>if kv.1=k then(kv.1,d) else kv)).map (·.1)∧HasL K G ((kvs.map (fun kv=>if kv.1=k then(kv.1,v) else kv)).map (·.2)) ((kds.map (fun kv=>if kv.1=k then(kv.1,d) else kv)).map (·.2)):=by
   intro kvs
   induction kvs with
   |nil=>
    intro kds e r;cases kds with
    |nil=>exact⟨rfl, .nil⟩
    |cons _ _=>simp at e
   |cons p kvs ih=>
    intro kds e r;cases kds with
    |nil=>simp at e
    |cons q kds=>
     obtain⟨x,u⟩:=p;obtain⟨y,w⟩:=q;simp only [List.map_cons,List.cons.injEq] at e;obtain⟨e1,e2⟩:=e;subst e1;cases r with
     |cons h1 r=>
      obtain⟨i1,i2⟩:=ih e2 r;simp only [List.map_cons]
      by_cases z:x=k
      ·simp only [z,if_true];exact⟨by rw [i1], .cons h i2⟩
      ·simp only [z,if_false];exact⟨by rw [i1], .cons h1 i2⟩
  exact all e r
 ·refine⟨by rw [List.map_append,List.map_append,e];rfl, ?_⟩;rw [List.map_append,List.map_append];exact r.append (.cons h .nil)
section
variable{X:Cx}{EX:EXS}{pos:Pos}
def u_7:FE:=fun _=> .ok (.ow (.dic []))
theorem ag_0:ED X EX (.Dict [] [] pos) u_7:=PE.imp ck_7 fun σ H Q ⟨G,δ,g,s,o⟩=>fun p hp=>
 o (.ref p) (fun b=>b=p) G _ (Step.own g hp _) (fun a e=>by subst e;exact⟨hp,g.free hp,by rw [a_9];simp⟩) (.dict a_9 rfl rfl .nil)
def inK(neg:Bool):D→D→R W
 |d, .dic kvs=>match q_4 d with
  |some k=> .ok (.sh (.bl (if neg then !m_8 kvs k else m_8 kvs k)))
  |none=> .no
 |_,_=> .no
theorem DGet.rd{a:Addr}{kvs:List (Key×V)}{k:Key}(e:Rd H a (.dK kvs)):DGet H a (kV k) (j_9 kvs k):= .inl ⟨kvs,k,e,rfl,rfl⟩
theorem bs_2(hu:X.A.units + 64 < cLine):OpD X (compareOp .In) (inK false):=by
 intro zd s σ H x y v u Q I rx ry q;obtain⟨EX,G,a,b,g,ra,rb,o⟩:=q;cases rb with
 |dic h hk r=>
  simp only [inK] at o
  split at o
  ·rename_i k ek;have ex:=t_8 ra ek;subst ex;cases ry;refine d_in (by omega) I (DGet.rd (k:=k) (Same.rdD g h)) rx fun s' I'=>⟨.bl _,H,I',rfl, ?_⟩;rw [(w_0 k hk r).1];exact e_4 o g (.bl _)
  ·exact o.elim
 |_=>exact False.elim o
theorem aa_6(hu:X.A.units + 64 < cLine):OpD X (compareOp .NotIn) (inK true):=by
 intro zd s σ H x y v u Q I rx ry q;obtain⟨EX,G,a,b,g,ra,rb,o⟩:=q;cases rb with
 |dic h hk r=>
  simp only [inK] at o
  split at o
  ·rename_i k ek;have ex:=t_8 ra ek;subst ex;cases ry;refine cu_4 (by omega) I (DGet.rd (k:=k) (Same.rdD g h)) rx fun s' I'=>⟨.bl _,H,I',rfl, ?_⟩;rw [(w_0 k hk r).1];exact e_4 o g (.bl _)
  ·exact o.elim
 |_=>exact False.elim o
def getK:D→D→R W
 | .dic kvs,d=>match q_4 d with
  |some k=>(match f_0 kvs k with
   |some x=> .ok (.sh x)
   |none=> .no)
  |none=> .no
 |_,_=> .no
theorem bc_9{o i:Expr}{f g:FE}(hu:X.A.units + 64 < cLine)(ho:ED X EX o f)(hi:ED X EX i g)(hs:NoSl i:=by intro _ _;rfl):ED X EX (.Subscript o i pos) (eOp getK f g):=
 PE.imp (cu_6 (by omega) ho hi hs) fun σ H Q ⟨G,δ,g0,s0,o⟩=>tD.seq g0 s0 o fun w v G1 H1 _ st1 r1 o1=>tD.seq st1.gh (s0.mono st1.gg) o1 fun w2 v2 G2 H2 _ st2 r2 o2=>by
  have r1:=r1.mono st2.gg;revert r1 o2;cases w.d with
  |dic kvs=>
   intro o2 r1;simp only [getK] at o2
   split at o2
   ·rename_i k ek
    split at o2
    ·rename_i x ex;cases r1 with
     |dic h hk r=>
      obtain⟨u,e1,e2⟩:=(w_0 k hk r).2 x ex;have e3:=t_8 r2 ek;subst e3;refine⟨_,u,rfl, ?_,e_4 o2 st2.gh e2⟩;rw [←e1];exact DGet.rd (Same.rdD st2.gh h)
    ·exact o2.elim
   ·exact o2.elim
  |_=>intro o2 _;exact False.elim o2
def u_8:List D→R W
 | [.dic kvs]=> .ok (.sh (.int kvs.length))
 |_=> .no
theorem o_4:ac_3 X (.builtin "len") u_8:=by
 intro zd s σ H vs us Q I rv q;obtain⟨EX,G,ds,g,r,o⟩:=q;cases r with
 |nil=>exact False.elim o
 |cons h t=>
  cases t with
  |cons _ _=>cases h <;> exact False.elim o
  |nil=>
   cases h with
   |dic h hk r=>
    rename_i kvs kds;obtain⟨u,rfl,ru⟩:=rv.one;cases ru;refine dn_6 I (Same.rdD g h) fun t s' I'=>⟨.int _,H,I',⟨t,rfl⟩, ?_⟩;have hl:kds.length=kvs.length:=by
     have:=congrArg List.length hk;rw [List.length_map,List.length_map] at this;exact this.symm
    rw [←hl];exact e_4 o g (.int _)
   |_=>exact False.elim o
def ag_1(i:Nat)(js:List Nat)(fk fe:FE):FS:=fun Δ=>match(gsome js Δ)[i]? with
 |some (.ow (.dic kvs))=>(match fe (vsh (gsome js Δ)) with
  | .ok w=>(match fk (vall (gsome js Δ)) with
   | .ok z=>(match q_4 z.d with
    |some k=>if kvs.length < 16777216 then .nx ((gsome js Δ).set i (.ow (.dic (o_2 kvs k w.d)))) else .no
    |none=> .no)
   |_=> .no)
  |_=> .no)
 |_=> .no
theorem bx_6{i:Nat}(js:List Nat){x:Str}{e ie:Expr}{fe fk:FE}{p1 zh pos:Pos}(hu:X.A.units + 64 < cLine)(he:ED X EX e fe)(hi:ED X EX ie fk)(hN:X.N[i]? =some x:=by rfl)(hv:Vis X.env.scope x:=by first|exact Or.inl rfl|exact Or.inr (Or.inl rfl)|exact Or.inr (Or.inr rfl))(hd:(x ==("__debug__" :Str))=false:=by decide)
  (hcd:(x ==("__classdict__" :Str))=false:=by decide) (hs:swapsWith e (some (.Subscript (.Name x p1) ie zh)) pos.line X.env=pure false:=by rfl):
  SD X EX (.Assign [.Subscript (.Name x p1) ie zh] e pos) (ag_1 i js fk fe):=
 PS.imp (bx_0 (by omega) (j_7 hN hv hd hcd) hi he hs) fun D σ H ⟨H0,G0,G,Δ,O,E,q⟩=>by
  obtain⟨G1,O1,sg,E1⟩:=E.gsome js;unfold ag_1 at q;generalize gsome js Δ=Δ1 at q E1
  split at q
  ·rename_i kds e1;obtain⟨v0,s1,t⟩:=E1.ow i _ _ e1 rfl;obtain⟨a,kvs,rfl,m,hH,hk,rl⟩:=t.dict_of;refine⟨G1,vsh Δ1,E1.st.gh,E1.gsh, ?_⟩;cases e2:fe (vsh Δ1) with
   |ex x=>rw [e2] at q;exact q.elim
   |no=>rw [e2] at q;exact q.elim
   |ok w=>
    simp only [e2] at q;refine WP.intro fun v G' H' st r=> ?_;have E2:=E1.grow st;refine⟨.ref a,s1,x_7 G' H' O1,vall Δ1,E2.aH,E2.gall, ?_⟩;cases e3:fk (vall Δ1) with
    |ex x=>simp only [e3] at q;exact q.elim
    |no=>simp only [e3] at q;exact q.elim
    |ok z=>
     simp only [e3] at q;refine WP.intro fun v2 G2 H2 st2 r2=> ?_
     split at q
     ·rename_i k ek
      split at q
      ·rename_i hl;have e4:=t_8 r2 ek;subst e4;have hH2:H2 a=some (.dK kvs):=st2.hh _ _ (st.hh _ _ hH);have hle:kvs.length=kds.length:=by
        have:=congrArg List.length hk
        rwa [List.length_map,List.length_map] at this
       obtain⟨p1,p2⟩:=bx_5 k hk (rl.mono st.gg) r;exact⟨a,_,rfl,DPut.k hH2 (by rw [hle,sizeLine_eq];exact hl),q σ G' _ _ ((E2.keep st2.hh).writeD s1 m p1 p2) (sg.trans st.gg)⟩
      ·exact q.elim
     ·exact q.elim
  ·exact q.elim
end
section
variable{K:Frag}{H0 H1:HB}{G0 G H:Hp}{σ:Sg}{Δ:SE}{O:OS}
end
section
variable{X:Cx}{EX:EXS}{pos:Pos}
end
section
variable{X:Cx}{EX:EXS}{pos:Pos}
end
section
variable{X:Cx}{EX:EXS}{a b:Expr}{fa:FA}{p pos:Pos}
end
section
variable{K:Frag}{G H:Hp}
theorem OwL.append:∀{vs us:List V} {ts rs:List Tn} {S1 S2 S:AS},OwL K G H vs ts S1→OwL K G H us rs S2→(∀b,S1 b→S2 b→False)→(∀b,S1 b→S b)→(∀b,S2 b→S b)→OwL K G H (vs ++ us) (ts ++ rs) S
 |_,_,_,_,_,_,_, .nil,r,_,_,i2=>r.mono (Same.refl _) (fun _ _ _ q=>q) i2
 |_,_,_,_,S1,S2,S, .cons (S1:=Sa) (S2:=Sb) h r dj s1 s2,q,d,i1,i2=>
  .cons (S2:=fun b=>Sb b∨S2 b) h (OwL.append r q (fun b z1 z2=>d b (s2 b z1) z2) (fun b z=> .inl z) fun b z=> .inr z) (fun b z1 z2=>by
   rcases z2 with z2|z2
   ·exact dj b z1 z2
   ·exact d b (s1 b z1) z2) (fun b z=>i1 b (s1 b z)) fun b z=>by
   rcases z with z|z
   ·exact i1 b (s2 b z)
   ·exact i2 b z
end
section
variable{α:Type}
def repA:List (Key×α)→Key→α→List (Key×α)
 | [],_,_=> []
 |(x,v)::r,k,v'=>if x=k then(x,v')::r else(x,v)::repA r k v'
theorem ai_4:∀(l:List (Key×α)) (k:Key) (v:α),(repA l k v).map (·.1)=l.map (·.1)
 | [],_,_=>rfl
 |(x,v0)::r,k,v=>by
  unfold repA
  split
  ·rfl
  ·rw [List.map_cons,List.map_cons,ai_4 r k v]
end
def unS:List (Key×Tn)→Option (List (Key×D))
 | []=>some []
 |(k, .sh d)::r=>(unS r).map ((k,d):: ·)
 |_=>none
theorem aq_8:∀{zm:List (Key×Tn)} {kds:List (Key×D)},unS zm=some kds→zm=kds.map fun p=>(p.1,Tn.sh p.2)
 | [],_,e=>by cases e;rfl
 |(k,t)::r,kds,e=>by
  cases t with
  |sh d=>
   simp only [unS] at e;cases q:unS r with
   |none=>rw [q] at e;cases e
   |some l=>
    rw [q] at e;cases e;rw [aq_8 q];rfl
  |_=>cases e
section
variable{K:Frag}{G H:Hp}
theorem OwL.focusK(k:Key):∀{kvs:List (Key×V)} {zm:List (Key×Tn)} {S:AS} {t:Tn},kvs.map (·.1)=zm.map (·.1)→OwL K G H (kvs.map (·.2)) (zm.map (·.2)) S→f_0 zm k=some t→
  ∃v S1,j_9 kvs k=some v∧Ow K G H v t S1∧(∀b,S1 b→S b)∧
   ∀{H':Hp} {t':Tn},(∀b o,S b→¬S1 b→H b=some o→H' b=some o)→Ow K G H' v t' S1→OwL K G H' (kvs.map (·.2)) ((repA zm k t').map (·.2)) S
 | [], [],_,_,_,_,e=>by cases e
 | [],_::_,_,_,e,_,_=>by simp at e
 |_::_, [],_,_,e,_,_=>by simp at e
 |(x,v)::kvs,(y,t0)::zm,S,t,e,r,h=>by
  simp only [List.map_cons,List.cons.injEq] at e;obtain⟨e1,e2⟩:=e;subst e1;cases r with
  |cons hh r dj s1 s2=>
   rename_i S1 S2
   by_cases q:x=k
   ·have a2:f_0 ((x,t0)::zm) k=some t0:=by unfold f_0;rw [List.find?_cons_of_pos (by simpa using q)];rfl
    rw [a2] at h;cases h;refine⟨v,S1,j_0 q,hh,s1,fun{H' t'} f h'=> ?_⟩;unfold repA;rw [if_pos q];exact .cons h' (r.mono (Same.refl _) (fun b o hb z=>f b o (s2 b hb) (fun w=>dj b w hb) z) fun _ z=>z) dj s1 s2
   ·have a2:f_0 ((x,t0)::zm) k=f_0 zm k:=by unfold f_0;rw [List.find?_cons_of_neg (by simpa using q)]
    rw [a2] at h;obtain⟨v',S',e1,h',i',f'⟩:=OwL.focusK k e2 r h;refine⟨v',S',by rw [h_8 q];exact e1,h',fun b z=>s2 b (i' b z),fun{H' t'} f h2=> ?_⟩;unfold repA;rw [if_neg q];exact .cons (hh.mono (Same.refl _) (fun b o hb z=>f b o (s1 b hb) (fun w=>dj b hb (i' b w)) z) fun _ z=>z) (f' (fun b o hb nb z=>f b o (s2 b hb) nb z) h2) dj s1 s2
end
def Sl.tree:Sl→Option (Tn×Bool)
 | .ow d=>some (Tn.of d,false)
 | .tr t=>some (t,false)
 | .lt t=>some (t,true)
 |_=>none
def Sl.mk(b:Bool)(t:Tn):Sl:=if b then .lt t else .tr t
theorem Sl.tree_own{s:Sl}{t:Tn}{b:Bool}(e:s.tree=some (t,b)):s.own=some t:=by
 cases s <;> first|(cases e;rfl)|cases e
theorem Sl.mk_own(b:Bool)(t:Tn):(Sl.mk b t).own=some t:=by cases b <;> rfl
theorem Sl.mk_lk(b:Bool)(t:Tn):∀d,Sl.mk b t≠ .lk d:=by intro d;cases b <;> (intro z;cases z)
theorem Ev.mk_lt{H0:HB}{G0 G H:Hp}{σ:Sg}{Δ:SE}{O:OS}(E:Ev K H0 G0 G H σ Δ O){i:Nat}{s:Sl}{t:Tn}{b:Bool}(e:Δ[i]? =some s)(q:s.tree=some (t,b))(t':Tn):∀d,Sl.mk b t'= .lt d→σ[i]? =some (some (.ref (H0.b i))):=by
 intro d z;cases b with
 |false=>cases z
 |true=>
  cases s with
  |lt t0=>exact E.lt i t0 e
  |_=>cases q
theorem Ev.writeIn{H0:HB}{G0 G H:Hp}{σ:Sg}{Δ:SE}{O:OS}(E:Ev K H0 G0 G H σ Δ O){i:Nat}{s:Sl}{t t':Tn}{b:Bool}{a:Addr}{o:HO}(e:Δ[i]? =some s)(q:s.tree=some (t,b))(s1:σ[i]? =some (some v))(m:O i a)(t1:Ow K G (upd H a o) v t' (O i)):
  Ev K H0 G0 G (upd H a o) σ (Δ.set i (Sl.mk b t')) (setA O i (O i)):=
 have ms:=MStep.write E.st.gh m (E.out i a m).1 o
 E.step2 (Sl.mk_own b t') (Sl.mk_lk b t') (E.mk_lt e q t') ms.weak s1 (fun b hb=>⟨.inl hb,(E.out i b hb).1,ms.al b (E.out i b hb).2.2⟩) t1
theorem Ow.dic_of{G H:Hp}{zm:List (Key×Tn)}{S:AS}(t:Ow K G H v (.dic zm) S):∃a kvs S1,v= .ref a∧S a∧H a=some (.dK kvs)∧kvs.map (·.1)=zm.map (·.1)∧(∀b,S1 b→S b∧b≠a)∧OwL K G H (kvs.map (·.2)) (zm.map (·.2)) S1:=by
 cases t with
 |dic h hk ha sub r=>exact⟨_,_,_,rfl,ha,h,hk,sub,r⟩
section
variable{X:Cx}{EX:EXS}{pos:Pos}
end
theorem aq_9{G:Hp}(k:Key):∀{kvs:List (Key×V)} {kds:List (Key×D)},kvs.map (·.1)=kds.map (·.1)→HasL K G (kvs.map (·.2)) (kds.map (·.2))→(p_5 kvs k).map (·.1)=(n_2 kds k).map (·.1)∧HasL K G ((p_5 kvs k).map (·.2)) ((n_2 kds k).map (·.2))
 | [], [],_,_=>⟨rfl, .nil⟩
 | [],_::_,e,_=>by simp at e
 |_::_, [],e,_=>by simp at e
 |(x,v)::kvs,(y,d)::kds,e,r=>by
  simp only [List.map_cons,List.cons.injEq] at e;obtain⟨e1,e2⟩:=e;subst e1;cases r with
  |cons h r=>
   obtain⟨i1,i2⟩:=aq_9 k (kvs:=kvs) (kds:=kds) e2 r
   by_cases q:x=k
   ·have a1:p_5 ((x,v)::kvs) k=p_5 kvs k:=cd_6 q;have a2:n_2 ((x,d)::kds) k=n_2 kds k:=by unfold n_2;rw [List.filter_cons_of_neg (by simpa using q)]
    rw [a1,a2];exact⟨i1,i2⟩
   ·have a1:p_5 ((x,v)::kvs) k=(x,v)::p_5 kvs k:=cd_7 q;have a2:n_2 ((x,d)::kds) k=(x,d)::n_2 kds k:=by unfold n_2;rw [List.filter_cons_of_pos (by simpa using q)]
    rw [a1,a2];exact⟨by rw [List.map_cons,List.map_cons,i1], .cons h i2⟩
section
variable{X:Cx}{EX:EXS}{pos:Pos}
end
def kD:Key→D
 | .inl i=> .int i
 | .inr x=> .str x
theorem bd_0{G:Hp}(k:Key):Has K G (kV k) (kD k):=by cases k <;> constructor
theorem bx_7{G:Hp}:∀ks:List Key,HasL K G (ks.map kV) (ks.map kD)
 | []=> .nil
 |k::ks=> .cons (bd_0 k) (bx_7 ks)
theorem dc_1{P:Program}{w:World}{k:Key}{u:Value}(h:(e_1 P w).is k u=true):RelV (kV k) u:=by
 rcases g_2 h with⟨i,t,rfl,rfl⟩|⟨x,t,rfl,rfl⟩
 ·exact⟨t,rfl⟩
 ·exact⟨t,rfl⟩
theorem ai_5{P:Program}{w:World}:∀{kvs:List (Key×V)} {vs:List (Key×Value)} {us:List Value},KV kvs vs→us.length=vs.length→(∀(j:Nat) v,us[j]? =some v→∃k x,vs[j]? =some (k,x)∧(e_1 P w).is k v=true)→Vals ((kvs.map (·.1)).map kV) us
 | [],vs,us,r,hl,_=>by
  have:=r.length;simp at this;have:us= []:=List.eq_nil_of_length_eq_zero (by omega);subst this;exact .nil
 |(k,v)::kvs,vs,us,r,hl,h=>by
  cases r with
  |cons h1 r=>
   rename_i q vs;obtain⟨k',x⟩:=q;cases us with
   |nil=>simp at hl
   |cons u us=>
    obtain⟨k2,x2,e,i⟩:=h 0 u rfl;have e:(k',x)=(k2,x2):=by simpa using e
    cases e;have e1:k=k':=h1.1;subst e1;exact .cons (dc_1 i) (ai_5 r (by simpa using hl) fun j v e=>by
     obtain⟨a,b,c,d⟩:=h (j + 1) v (by simpa using e);exact⟨a,b,by simpa using c,d⟩)
section
variable{X:Cx}{EX:EXS}{pos:Pos}
end
section
variable{X:Cx}{EX:EXS}{pos:Pos}
theorem HasL.dropLast{G:Hp}{vs:List V}{ds:List D}(h:HasL K G vs ds):HasL K G vs.dropLast ds.dropLast:=by
 rw [List.dropLast_eq_take,List.dropLast_eq_take,h.length];exact h.take _
theorem HasL.eraseIdx{G:Hp}:∀{vs:List V} {ds:List D} (n:Nat),HasL K G vs ds→HasL K G (vs.eraseIdx n) (ds.eraseIdx n)
 |_,_,_, .nil=> .nil
 |_,_,0, .cons _ r=>r
 |_,_,n + 1, .cons h r=> .cons h (HasL.eraseIdx n r)
def bx_8(kvs:List (Key×D))(b c:D):R W:=match q_4 b with
 |some k=>(match f_0 kvs k with
  |some x=> .ok (.sh x)
  |none=> .ok (.sh c))
 |none=> .no
def bj_2(f g h:FE):FE:=fun δ=>(f δ).bind fun a=>match a.d with
 | .dic kvs=>(g δ).bind fun b=>(h δ).bind fun c=>bx_8 kvs b.d c.d
 |_=> .no
theorem cw_9{o e e2:Expr}{f g h:FE}{zg zf:Pos}(hu:X.A.units + 64 < cLine)(ho:ED X EX o f)(he:ED X EX e g)(hf:ED X EX e2 h)(hm:M2 X o "get" zg e e2 zf:=by exact⟨rfl,rfl,rfl,rfl⟩):
  ED X EX (.Call (.Attribute o "get" zg) [e,e2] [] zf) (bj_2 f g h):=
 PE.imp (ck_9 (by omega) ho he hf hm) fun σ H Q ⟨G,δ,g0,s0,o⟩=>tD.seq g0 s0 o fun w v G1 H1 e1 st1 r1 o1=>by
  revert r1 o1;cases w.d with
  |dic kvs=>
   intro r1 o1;cases r1 with
   |dic hh hk r=>
    rename_i a0 kv0;refine⟨_,rfl, .inl ⟨_,Same.rdD st1.gh hh⟩, ?_⟩;refine tD.seq st1.gh (s0.mono st1.gg) o1 fun w2 v2 G2 H2 _ st2 r2 o2=>tD.seq st2.gh (s0.mono (st1.gg.trans st2.gg)) o2 fun w3 v3 G3 H3 _ st3 r3 o3=> ?_;unfold bx_8 at o3
    split at o3
    ·rename_i k ek;have ev:=t_8 r2 ek;subst ev;have hg:=Same.rdD st3.gh (Same.rdD st3.gg (Same.rdD st2.gg hh));refine⟨_,DGet.rd hg, ?_⟩;obtain⟨i1,i2⟩:=w_0 (K:=X.K) (G:=G3) k hk (r.mono (st2.gg.trans st3.gg))
     split at o3
     ·rename_i x ex;obtain⟨u,e5,e6⟩:=i2 x ex;rw [e5];exact e_4 o3 st3.gh e6
     ·rename_i ex;have:j_9 kv0 k=none:=by
       cases q:j_9 kv0 k with
       |none=>rfl
       |some u=>
        rw [q] at i1;unfold m_8 at i1;rw [ex] at i1;cases i1
      rw [this];exact e_4 o3 st3.gh r3
    ·exact o3.elim
  |_=>intro _ o1;exact False.elim o1
end
section
variable{X:Cx}{EX:EXS}{e:Expr}{es:List Expr}{x:Str}{pp pos:Pos}{c:Bool}{k k':Nat}{ps:List Str}
theorem cm_6{sp:Sp}{ta:TA}{f:Addr}(hr:RoomC c k' X.A)(lk:Lk X EX)(ok:FnX X.prog X.w X.K X.mg X.base c k f fd ps sp)(hm:X.mg x=some (.ref f))(kp:keepIn X.K (.ref f)=true)(hb:Binds X.K fd ps [])(ha:PA X (e::es) ta)(hk:k≤k')(hg:Gl X x)(hdb:(x ==("__debug__" :Str))=false)
  (he:starEach (e::es) X.env=(false,eval e X.env)::starEach es X.env) (hpl:(backTo pos (starEach es X.env)).any (·.1)=false):
  PE X (.Call (.Name x pp) (e::es) [] pos) (fun σ H Q=>ta σ H fun vs H1=>sp vs H1 Q (EXE X.K (EX σ))):=by
 intro zd s σ H Q I q;refine wpAny_Call_Name_kw (q_8 I hg hm ?_ hdb);refine callWith_K (h₀:=X.base) I.ok.mod.kin kp (thn (ha pos zd s σ H _ I q) fun us s1 ⟨vs,H1,I1,r,q⟩=>⟨I1.kIn, ?_⟩) he hpl;exact an_1 ok (hr.mono hk) hb lk I1 r q
end
def OFld(K:Frag)(cs:List Str)(f:Str):Prop:=∀c,cs.contains c=true→∀C,ClsAt K c C→Cls K C∧NoAttr K C f
theorem OFld.nil{f:Str}:OFld K [] f:=fun c h=>by cases h
theorem ClsAt.same{c:Str}{C C':Addr}(a:ClsAt K c C)(b:ClsAt K c C'):C'=C:=by
 unfold ClsAt at a b;rw [a] at b;injection b with b
 injection b with b
 injection b with b
 exact b.symm
theorem OFld.one{c:Str}{C:Addr}{cs:List Str}{f:Str}(a:ClsAt K c C)(k:Cls K C)(n:NoAttr K C f)(r:OFld K cs f):OFld K (c::cs) f:=fun c' h C' a'=>by
 rw [List.contains_cons,Bool.or_eq_true] at h;rcases h with h|h
 ·have e:=beq_iff_eq.mp h;subst e;rw [a.same a'];exact⟨k,n⟩
 ·exact r c' h C' a'
def j_2(cs:List Str)(f:Str)(fo:FE):FE:=fun δ=>(fo δ).bind fun w=>match w.d with
 | .obj c ns vs=>if cs.contains c then(match(ns.zip vs).lookup f with
  |some d=> .ok (.sh d)
  |none=> .no) else .no
 |_=> .no
theorem an_3{G:Hp}{f:Str}:∀{ns:List Str} {us:List V} {vs:List D},HasL K G us vs→ns.length=us.length→(∀d,(ns.zip vs).lookup f=some d→∃v,(ns.zip us).lookup f=some v∧Has K G v d)∧(ns.contains f=false→(ns.zip us).lookup f=none)
 | [],_,_,_,_=>⟨fun d e=>(by cases e),fun _=>rfl⟩
 |n::ns, [],_,_,e=>by simp at e
 |n::ns,u::us,_, .cons h r,e=>by
  obtain⟨i1,i2⟩:=an_3 (f:=f) (ns:=ns) r (by simpa using e);refine⟨fun d q=> ?_,fun q=> ?_⟩
  ·rw [List.zip_cons_cons,List.lookup_cons] at q⊢;cases hb:f ==n with
   |true=>simp only [hb] at q⊢;cases q;exact⟨u,rfl,h⟩
   |false=>simp only [hb] at q⊢;exact i1 d q
  ·rw [List.contains_cons,Bool.or_eq_false_iff] at q;rw [List.zip_cons_cons,List.lookup_cons];simp only [q.1];exact i2 q.2
section
variable{X:Cx}{EX:EXS}{e:Expr}{pos:Pos}
theorem o_5{cs:List Str}{f:Str}{fo:FE}(k:OFld X.K cs f)(he:ED X EX e fo)(hb:attributeBase e f X.env (eval e X.env)=eval e X.env:=by rfl):ED X EX (.Attribute e f pos) (j_2 cs f fo):=
 PE.imp (bq_0 he hb) fun σ H Q ⟨G,δ,g0,s0,o⟩=>tD.seq g0 s0 o fun w v G1 H1 _ st r o'=>by
  revert o' r;cases w.d with
  |obj c ns vs=>
   intro r o';simp only at o'
   split at o'
   ·rename_i hc
    split at o'
    ·rename_i d ed;cases r with
     |obj hC hh hl rl=>
      obtain⟨v1,e1,h1⟩:=(an_3 (f:=f) rl hl).1 d ed;obtain⟨kc,kn⟩:=k c hc _ hC;exact⟨_,_,_,_,v1,rfl,st.gh _ _ hh,kc,kn,e1,e_4 o' st.gh h1⟩
    ·exact o'.elim
   ·exact o'.elim
  |_=>intro _ o';exact False.elim o'
end
structure MethD(P:Program)(w:World)(K:Frag)(mg:Str→Option Value)(base:Heap)(cc:Bool)(k n:Nat)(m c:Str)(F:List D→R W):Prop where
 ex:∃C f fd ps,ClsAt K c C∧Cls K C∧Meth K C m f∧FnX P w K mg base cc k f fd ps (spX K (n + 1) F)∧Binds K fd ps []
def MethT(P:Program)(w:World)(K:Frag)(mg:Str→Option Value)(base:Heap)(cc:Bool)(k n:Nat)(m:Str)(tb:List (Str×(List D→R W))):Prop:=∀c F,tb.lookup c=some F→MethD P w K mg base cc k n m c F
theorem MethT.nil{P:Program}{w:World}{cc:Bool}{k n:Nat}{m:Str}:MethT P w K mg base cc k n m []:=fun c F e=>by cases e
theorem FnX.up{P:Program}{w:World}{c:Bool}{j k:Nat}{f:Addr}{ps:List Str}{sp:Sp}(F:FnX P w K mg base c j f fd ps sp)(h:j≤k):FnX P w K mg base c k f fd ps sp:=
 ⟨F.len,fun A outer s H args us vs Q E hr=>F.run A outer s H args us vs Q E (hr.mono h)⟩
theorem MethT.one{P:Program}{w:World}{cc:Bool}{j k n:Nat}{m c:Str}{F:List D→R W}{tb:List (Str×(List D→R W))}(d:MethD P w K mg base cc j n m c F)(hj:j≤k)(r:MethT P w K mg base cc k n m tb):MethT P w K mg base cc k n m ((c,F)::tb):=fun c' F' e=>by
 rw [List.lookup_cons] at e;cases hb:c' ==c with
 |true=>
  simp only [hb] at e;cases e;have:=beq_iff_eq.mp hb;subst this;obtain⟨C,f,fd,ps,a1,a2,a3,a4,a5⟩:=d.ex;exact⟨C,f,fd,ps,a1,a2,a3,a4.up hj,a5⟩
 |false=>simp only [hb] at e;exact r c' F' e
def c_7(m:Str)(n:Nat)(tb:List (Str×(List D→R W)))(fo:FE)(fa:FA):FE:=fun δ=>(fo δ).bind fun w=>match w.d with
 | .obj c ns vs=>if ns.contains m then .no else match tb.lookup c with
  |some F=>(fa δ).bind fun ds=>if ds.length=n then F (.obj c ns vs::ds) else .no
  |none=> .no
 |_=> .no
section
variable{X:Cx}{EX:EXS}{e o:Expr}{es:List Expr}{pos zg:Pos}{cc:Bool}{k k' n:Nat}{m:Str}{tb:List (Str×(List D→R W))}{fo:FE}{fa:FA}
def cm_7(X:Cx)(EX:EXS)(cc:Bool)(k:Nat)(m:Str)(ta:TE)(t:TA):TE:=fun σ H Q=>ta σ H fun x H1=>∃a C dx fs f fd ps sp,x= .ref a∧H1 a=some (.ins C dx fs)∧fs.lookup m=none∧Cls X.K C∧Meth X.K C m f∧
 FnX X.prog X.w X.K X.mg X.base cc k f fd ps sp∧Binds X.K fd ps []∧t σ H1 fun vs H2=>sp (.ref a::vs) H2 Q (EXE X.K (EX σ))
theorem bx_9{pl:Sem Bool}{ta:TE}{t:TA}(he:PE X o ta)(hr:RoomC cc k X.A)(lk:Lk X EX)(ha:PA X (e::es) t)
  (hst:starEach (e::es) X.env=(false,eval e X.env)::starEach es X.env) (hpl:(backTo pos (starEach es X.env)).any (·.1)=false)
  (ht:eval (.Call (.Attribute o m zg) (e::es) [] pos) X.env=(do
   let ov←eval o X.env
   standAt zg.atName
   let(f,first)←holding [ov] (getMethod ov m pl)
   callWith pos f first (backTo pos (starEach (e::es) X.env)) (backToKw pos (keywordEach [] X.env)))):
  PE X (.Call (.Attribute o m zg) (e::es) [] pos) (cm_7 X EX cc k m ta t):=by
 intro zd s σ H Q I h;refine methodCall_KW (pl:=pl) (thn (he zd s σ H _ I h) fun u s1 hh=> ?_) ht;obtain⟨x,H1,I1,rx,a,C,dx,fs,f,fd,ps,sp,ex,ea,l,c,hm,F,hb,q⟩:=hh;subst ex;obtain rfl:u=Value.ref a:=rx;refine ao_8 I1 ea c hm l ?_;refine callWith_K (first:= [.ref a]) (h₀:=X.base) I.ok.mod.kin hm.kp (thn (ha pos zd s1 σ H1 _ I1 q) fun us s2 ⟨vs,H2,I2,r,q2⟩=>⟨I2.kIn, ?_⟩) hst hpl;exact an_1 (us:= .ref a::us) (vs:= .ref a::vs) F hr hb lk I2 (.cons rfl r) q2
theorem cm_8{pl:Sem Bool}{ta:TE}(he:PE X o ta)(hr:RoomC cc k X.A)(lk:Lk X EX)
  (ht:eval (.Call (.Attribute o m zg) [] [] pos) X.env=(do
   let ov←eval o X.env
   standAt zg.atName
   let(f,first)←holding [ov] (getMethod ov m pl)
   callWith pos f first (backTo pos (starEach [] X.env)) (backToKw pos (keywordEach [] X.env)))):
  PE X (.Call (.Attribute o m zg) [] [] pos) (cm_7 X EX cc k m ta tNil):=by
 intro zd s σ H Q I h;refine methodCall_KW (pl:=pl) (thn (he zd s σ H _ I h) fun u s1 hh=> ?_) ht;obtain⟨x,H1,I1,rx,a,C,dx,fs,f,fd,ps,sp,ex,ea,l,c,hm,F,hb,q⟩:=hh;subst ex;obtain rfl:u=Value.ref a:=rx;refine ao_8 I1 ea c hm l ?_;exact callWith_K0 (first:= [.ref a]) I1.kIn hm.kp (an_1 (us:= [.ref a]) (vs:= [.ref a]) F hr hb lk I1 (.cons rfl .nil) q)
theorem dh_7{σ:Sg}{Q:VK}(hK:X.K=K)(T:MethT X.prog X.w X.K X.mg X.base cc k n m tb)(q:tD K EX (c_7 m n tb fo fa) σ H Q):cm_7 X EX cc k m (tD K EX fo) (tDa K EX fa) σ H Q:=by
 subst hK;obtain⟨G,δ,g0,s0,o⟩:=q;refine tD.seq g0 s0 o fun w v G1 H1 _ st r o'=> ?_;revert o' r;cases w.d with
 |obj c ns vs=>
  intro r o';simp only at o'
  split at o'
  ·exact o'.elim
  ·rename_i hn
   split at o'
   ·rename_i F ef;cases r with
    |obj hC hh hl rl=>
     rename_i a0 C0 dx0 us0;obtain⟨C,f,fd,ps,a1,a2,a3,a4,a5⟩:=(T c F ef).ex;have:=a1.same hC;subst this;refine⟨_,_,_,_,f,fd,ps,_,rfl,st.gh _ _ hh,(an_3 (f:=m) rl hl).2 (by simpa using hn),a2,a3,a4,a5, ?_⟩;refine tDa.seq st.gh (s0.mono st.gg) o' fun ds us G' H' _ st' r' o2=> ?_
     split at o2
     ·rename_i zk;refine⟨by rw [List.length_cons,r'.length,zk],G', .obj c ns vs::ds,st'.gh, .cons (Has.mono st'.gg (.obj hC hh hl rl)) r', ?_⟩;cases q:F (.obj c ns vs::ds) with
      |ok w=>rw [q] at o2;exact o2
      |ex x=>rw [q] at o2;exact EXof.in o2
      |no=>rw [q] at o2;exact o2.elim
     ·exact o2.elim
   ·exact o'.elim
 |_=>intro _ o';exact False.elim o'
theorem o_8{pl:Sem Bool}(T:MethT X.prog X.w X.K X.mg X.base cc k n m tb)(hr:RoomC cc k' X.A)(lk:Lk X EX)(he:ED X EX o fo)(ha:AD X EX (e::es) fa)(hk:k≤k':=by decide)
  (hst:starEach (e::es) X.env=(false,eval e X.env)::starEach es X.env:=by rfl) (hpl:(backTo pos (starEach es X.env)).any (·.1)=false:=by rfl)
  (ht:eval (.Call (.Attribute o m zg) (e::es) [] pos) X.env=(do
   let ov←eval o X.env
   standAt zg.atName
   let(f,first)←holding [ov] (getMethod ov m pl)
   callWith pos f first (backTo pos (starEach (e::es) X.env)) (backToKw pos (keywordEach [] X.env))):=by rfl):ED X EX (.Call (.Attribute o m zg) (e::es) [] pos) (c_7 m n tb fo fa):=
 PE.imp (bx_9 he (hr.mono hk) lk ha hst hpl ht) fun _ _ _ q=>dh_7 rfl T q
theorem y_3{pl:Sem Bool}(T:MethT X.prog X.w X.K X.mg X.base cc k 0 m tb)(hr:RoomC cc k' X.A)(lk:Lk X EX)(he:ED X EX o fo)(hk:k≤k':=by decide)
  (ht:eval (.Call (.Attribute o m zg) [] [] pos) X.env=(do
   let ov←eval o X.env
   standAt zg.atName
   let(f,first)←holding [ov] (getMethod ov m pl)
   callWith pos f first (backTo pos (starEach [] X.env)) (backToKw pos (keywordEach [] X.env))):=by rfl):ED X EX (.Call (.Attribute o m zg) [] [] pos) (c_7 m 0 tb fo aNil):=
 PE.imp (cm_8 he (hr.mono hk) lk ht) fun σ H Q ⟨G,δ,g0,s0,q⟩=>tD.seq g0 s0 q fun w v G1 H1 _ st r o'=>by
  revert o' r;cases w.d with
  |obj c ns vs=>
   intro r o';simp only at o'
   split at o'
   ·exact o'.elim
   ·rename_i hn
    split at o'
    ·rename_i F ef;cases r with
     |obj hC hh hl rl=>
      obtain⟨C,f,fd,ps,a1,a2,a3,a4,a5⟩:=(T c F ef).ex;have:=a1.same hC;subst this;refine⟨_,_,_,_,f,fd,ps,_,rfl,st.gh _ _ hh,(an_3 (f:=m) rl hl).2 (by simpa using hn),a2,a3,a4,a5, ?_⟩;have o2:Out X.K (EX σ) G1 H1 (F [.obj c ns vs]) Q:=o';refine⟨rfl,G1, [.obj c ns vs],st.gh, .cons (.obj hC hh hl rl) .nil, ?_⟩;cases q:F [.obj c ns vs] with
      |ok w=>rw [q] at o2;exact o2
      |ex x=>rw [q] at o2;exact EXof.in o2
      |no=>rw [q] at o2;exact o2.elim
    ·exact o'.elim
  |_=>intro _ o';exact False.elim o'
end
def ar_0(n:Nat)(c:Str)(ds:List D):SE:= .lt (.obj c [] [])::(ds.map Sl.sh ++ List.replicate (n - (ds.length + 1)) .no)
def spI(K:Frag)(C:Addr)(n:Nat)(F:List D→R (List Str×List D)):Sp:=fun vs H Q E=>∃x dx vs0 Hq G ds,vs= .ref x::vs0∧vs0.length=n∧Hq x=none∧Same Hq H∧H x=some (.ins C dx [])∧Same G Hq∧HasL K G vs0 ds∧
 (match F ds with
 | .ok p=>∀G' H' us dx',Step G Hq G' H'→G' x=none→H' x=some (.ins C dx' (p.1.zip us))→p.1.length=us.length→HasL K G' us p.2→Q .non H'
 | .ex e=>(EXof K E).p e G Hq
 | .no=>False)
theorem ay_2{G H h0:Hp}{v0:V}{vs:List V}{ds:List D}{N:List Str}{b:Nat→Addr}(g:Same G H)(i0:Same h0 H)(r:HasL K G vs ds)(hl:vs.length + 1≤N.length):Ev K ⟨h0,b⟩ G G H (p_4 N (v0::vs)) (.no::(ds.map Sl.sh ++ List.replicate (N.length - (ds.length + 1)) .no)) (fun _ _=>False):=by
 have key:∀(i:Nat) (s:Sl),(Sl.no::(ds.map Sl.sh ++ List.replicate (N.length - (ds.length + 1)) .no))[i]? =some s→(∃j d,i=j + 1∧s= .sh d∧ds[j]? =some d)∨s= .no:=fun i s e=>by
  cases i with
  |zero=>exact .inr (by simpa using e.symm)
  |succ i=>
   rw [List.getElem?_cons_succ] at e
   by_cases hi:i < ds.length
   ·rw [List.getElem?_append_left (by rw [List.length_map];exact hi),List.getElem?_map] at e;obtain⟨d,e1,e2⟩:=Option.map_eq_some_iff.mp e;exact .inl ⟨i,d,rfl,e2.symm,e1⟩
   ·rw [List.getElem?_append_right (by rw [List.length_map];omega),List.getElem?_replicate] at e
    split at e
    ·cases e;exact .inr rfl
    ·cases e
 refine⟨⟨i0,g,Same.refl _,fun _ n _=>n⟩, ?_,fun i d e=> ?_,fun i z d e zo=> ?_,fun _ _ ha=>ha.elim,fun _ _ _ ha=>ha.elim,fun i d e=> ?_,fun i d e=> ?_⟩
 ·unfold p_4;have:=r.length;simp only [List.length_append,List.length_map,List.length_replicate,List.length_cons] at hl⊢;omega
 ·rcases key i _ e with⟨j,d',rfl,q,q2⟩|q
  ·cases q;obtain⟨v,e1,h⟩:=r.get q2;refine⟨v, ?_,h⟩;unfold p_4;have hi:j < vs.length:=(List.getElem?_eq_some_iff.mp e1).1;rw [List.getElem?_append_left (by rw [List.length_map,List.length_cons];omega),List.getElem?_map,List.getElem?_cons_succ,e1];rfl
  ·cases q
 ·rcases key i _ e with⟨j,d',_,q,_⟩|q <;> (subst q;cases zo)
 ·rcases key i _ e with⟨j,d',_,q,_⟩|q <;> cases q
 ·rcases key i _ e with⟨j,d',_,q,_⟩|q <;> cases q
theorem ar_1{f:Str}{y:V}:∀{ns:List Str} {us:List V},ns.length=us.length→ns.contains f=false→s_6 f y (ns.zip us)=(ns ++ [f]).zip (us ++ [y])
 | [], [],_,_=>rfl
 | [],_::_,e,_=>by simp at e
 |_::_, [],e,_=>by simp at e
 |n::ns,u::us,e,h=>by
  rw [List.contains_cons,Bool.or_eq_false_iff] at h;have hn:¬n=f:=fun z=>by rw [z] at h;simp at h
  show s_6 f y ((n,u)::ns.zip us)=(n,u)::(ns ++ [f]).zip (us ++ [y]);unfold s_6;rw [if_neg hn,ar_1 (by simpa using e) h.2]
def ak_5(i:Nat)(cs:List Str)(f:Str)(js:List Nat)(fe:FE):FS:=fun Δ=>match(gsome js Δ)[i]? with
 |some (.lt (.obj c ns ts))=>if cs.contains c=true∧ns.contains f=false∧ns.length < 1000 then(match fe (vsh (gsome js Δ)) with
  | .ok w=> .nx ((gsome js Δ).set i (.lt (.obj c (ns ++ [f]) (ts ++ [.sh w.d]))))
  | .ex x=> .ex x (gsome js Δ)
  | .no=> .no) else .no
 |_=> .no
section
variable{X:Cx}{EX:EXS}{pos:Pos}
theorem an_4{i:Nat}{cs:List Str}{f x:Str}(js:List Nat){e:Expr}{fe:FE}{p1 p2:Pos}(k:OFld X.K cs f)(he:ED X EX e fe)(hN:X.N[i]? =some x:=by rfl)(hv:Vis X.env.scope x:=by first|exact Or.inl rfl|exact Or.inr (Or.inl rfl)|exact Or.inr (Or.inr rfl))(hd:(x ==("__debug__" :Str))=false:=by decide)
  (hcd:(x ==("__classdict__" :Str))=false:=by decide) (hs:swapsWith e (some (.Attribute (.Name x p1) f p2)) pos.line X.env=pure false:=by rfl):SD X EX (.Assign [.Attribute (.Name x p1) f p2] e pos) (ak_5 i cs f js fe):=
 PS.imp (bq_1 (j_7 hN hv hd hcd) he hs) fun D σ H ⟨H0,G0,G,Δ,O,E,q⟩=>by
  obtain⟨G1,O1,sg,E1⟩:=E.gsome js;unfold ak_5 at q;generalize gsome js Δ=Δ1 at q E1
  split at q
  ·rename_i c ns ts e1
   split at q
   ·rename_i hc;obtain⟨hc1,hc2,hc3⟩:=hc;refine⟨G1,vsh Δ1,E1.st.gh,E1.gsh, ?_⟩;cases e2:fe (vsh Δ1) with
    |ex y=>simp only [e2] at q;exact q σ G1 H O1 E1 sg
    |no=>simp only [e2] at q;exact q.elim
    |ok w=>
     simp only [e2] at q;refine WP.intro fun v G2 H2 st r=> ?_;have E2:=E1.grow st;obtain⟨v0,s1,t⟩:=E2.ow i _ _ e1 rfl;have s2:=E2.lt i _ e1;generalize et:(Tn.obj c ns ts)=t0 at t;cases t with
     | @obj a C dx c2 ns2 us ts2 S S1 hC h hl ha sub rl=>
      injection et with et1 et2 et3
      subst et1 et2 et3;obtain⟨kc,kn⟩:=k _ hc1 _ hC;refine⟨_,s1,_,_,_,_,rfl,h,kc,kn,by rw [List.length_zip,←hl,Nat.min_self];exact hc3, ?_⟩;rw [ar_1 hl hc2];have ms:=MStep.write (S:=O1 i) E2.st.gh ha (E2.out i _ ha).1 (.ins C dx ((ns ++ [f]).zip (us ++ [v])));refine q σ G2 _ _ (E2.step2 (S:=O1 i) (z:= .lt _) rfl (fun _ z=>by cases z) (fun _ _=>by rw [s1] at s2⊢;exact s2) ms.weak s1 (fun b hb=>⟨.inl hb,(E2.out i b hb).1,ms.al b (E2.out i b hb).2.2⟩) ?_) (sg.trans st.gg);refine .obj hC a_9 (by rw [List.length_append,List.length_append,hl];rfl) ha sub ?_;refine OwL.append (S2:=fun _=>False) (rl.mono (Same.refl _) (fun b o hb z=> ?_) fun _ z=>z) (.cons (S1:=fun _=>False) (S2:=fun _=>False) (.sh r) .nil (fun _ z _=>z) (fun _ z=>z.elim) fun _ z=>z.elim) (fun _ _ z=>z) (fun _ z=>z) fun _ z=>z.elim;rw [a_5 (sub b hb).2];exact z
     |_=>cases et
   ·exact q.elim
  ·exact q.elim
end
section
variable{X:Cx}{EX:EXS}{e:Expr}{es:List Expr}{x:Str}{pp pos:Pos}{cc:Bool}{k k' n:Nat}{ps:List Str}{C f:Addr}{fd:FuncData}
theorem ce_6{zd:List (Addr×Obj)}{σ:Sg}{s:Shared}{Q:VK}{vs:List V}{sp:Sp}(M:Mk X.K C f)(F:FnX X.prog X.w X.K X.mg X.base cc k f fd ps sp)(hr:RoomC cc (k + 1) X.A)(hb:Binds X.K fd ps [])(lk:Lk X EX)(I:Inv X zd σ H s)(r:Vals vs us)
  (h:∀x dx,H x=none→H dx=none→dx≠x→sp (.ref x::vs) (upd (upd H dx (.own x)) x (.ins C dx [])) (fun v H2=>v= .non∧Q (.ref x) H2) (EXE X.K (EX σ))):wpAny (model X.prog X.w) X.A (call (.ref C) us) (EP X zd σ Q) X.xe s:=by
 have hq:=h (s.heap.objs.size + 1) s.heap.objs.size (I.hok.fresh (Nat.le_succ _)) (I.hok.fresh (Nat.le_refl _)) (Nat.ne_of_lt (Nat.lt_succ_self _));have I2:=Inv.made (C:=C) I;have r2:Vals (V.ref (s.heap.objs.size + 1)::vs) (Value.ref (s.heap.objs.size + 1)::us):= .cons rfl r;have hl:(Value.ref (s.heap.objs.size + 1)::us).length=ps.length:=by
  rw [←r2.length];exact F.len _ _ _ _ hq
 have hb':=hb _ (Value.ref (s.heap.objs.size + 1)::us) I2.kIn (by rw [List.append_nil];exact hl);rw [List.append_nil] at hb';refine wpAny_call (cj_2 (f:=f) I.kIn M.makes M.init (beq_iff_eq.mp M.fn) (codeAny_mono (F.run _ X.stack _ _ ⟨Value.ref (s.heap.objs.size + 1)::us, []⟩ (Value.ref (s.heap.objs.size + 1)::us) _ _ _ (hr.make C us []) (I2.env0.make C us []) hb' r2 hq) fun r s' hq'=> ?_));cases r with
 |error e=>exact lk zd σ _ _ e s' I2 hq'
 |ok fl=>
  cases fl with
  |ret u=>
   obtain⟨v,H',I3,rv,ev,q3⟩:=I2.after hq';subst ev;exact⟨rv,⟨V.ref (s.heap.objs.size + 1),H',I3,rfl,q3⟩⟩
  |next=>exact False.elim hq'
  |brk=>exact False.elim hq'
  |cont=>exact False.elim hq'
def MakD(P:Program)(w:World)(K:Frag)(mg:Str→Option Value)(base:Heap)(cc:Bool)(c:Str)(k n:Nat)(F:List D→R (List Str×List D)):Prop:=
 ∃C f fd ps,ClsAt K c C∧mg c=some (.ref C)∧Mk K C f∧FnX P w K mg base cc k f fd ps (spI K C n F)∧Binds K fd ps []
end
section
variable{K:Frag}{G:Hp}{a:Addr}{vs:List V}{ds:List D}
end
section
variable{X:Cx}{EX:EXS}{pos:Pos}
end
end L3
namespace L3
open PySem L2 Builtin Builtin.Str
variable{K:Frag}{fd:FuncData}{mg:Str→Option Value}{us:List Value}{base:Heap}{H:Hp}{X:Cx}{pos:Pos}{v:V}
theorem an_5{x y:Str}(h:x.cps.toList=y.cps.toList):x=y:=by
 obtain⟨a⟩:=x;obtain⟨b⟩:=y;simp only at h;have:a=b:=by
  have:=congrArg List.toArray h;simpa using this
 rw [this]
theorem bd_1(x:Str):x.length=x.cps.toList.length:=by simp [Str.length]
theorem cx_0(x y:Str):(x ++ y).cps.toList=x.cps.toList ++ y.cps.toList:=by
 show(Str.append x y).cps.toList=_;simp [Str.append]
def cm_9(n:Nat)(d:Int):Option Int→Int
 |none=>d
 |some i=>max 0 (min (if i < 0 then i + (n:Int) else i) (n:Int))
theorem bj_3(n d:Nat)(o:Option Int):cm_9 n (d:Int) o=((HT.sIx n d o:Nat):Int):=by
 cases o with
 |none=>rfl
 |some v=>
  show max 0 (min (if v < 0 then v + (n:Int) else v) (n:Int))=(((if v < 0 then(v + (n:Int)).toNat else min v.toNat n):Nat):Int)
  by_cases hv:v < 0
  ·simp only [if_pos hv];omega
  ·simp only [if_neg hv];omega
theorem bs_3(lo hi:Option Int)(n:Nat):strSliceIndices lo hi 1 n=(List.range (HT.sIx n n hi - HT.sIx n 0 lo)).map (HT.sIx n 0 lo + ·):=by
 have e:strSliceIndices lo hi 1 n=sliceRange (cm_9 n ((0:Nat):Int) lo) (cm_9 n (n:Int) hi) 1:=by
  unfold strSliceIndices;simp only [show((1:Int) > 0)=True from by simp,if_true];cases lo <;> cases hi <;> rfl
 rw [e,bj_3,bj_3,sliceRange_one]
theorem ae_0(x:Str)(lo hi:Option Int):(Txt.slice x lo hi).cps.toList=cutL x.cps.toList lo hi:=by
 unfold Txt.slice cutL;rw [bs_3];have hl:x.cps.toList.length=x.length:=(bd_1 x).symm;rw [hl];have p:=pick_run x.cps (HT.sIx x.length 0 lo) (HT.sIx x.length x.length hi - HT.sIx x.length 0 lo)
 split
 ·rename_i h;have h':((List.range (HT.sIx x.length x.length hi - HT.sIx x.length 0 lo)).map (HT.sIx x.length 0 lo + ·)).length=x.length:=by
   simpa using h
  rw [List.length_map,List.length_range] at h';have h3:=HT.sIx_le x.length x.length (Nat.le_refl _) hi;have h4:=HT.sIx_le x.length 0 (Nat.zero_le _) lo;have e0:HT.sIx x.length 0 lo=0:=by omega
  rw [h',e0,List.drop_zero,List.take_of_length_le (by omega)]
 ·rw [p]
end L3
namespace L3
open PySem L2
variable{K:Frag}{fd:FuncData}{mg:Str→Option Value}{us:List Value}{base:Heap}{H:Hp}{X:Cx}{pos:Pos}{v:V}
theorem e_9(i j:Int):eqD (.int i) (.int j)= .ok (.sh (.bl (decide (i=j)))):=by
 have h:eqvD (.int i) (.int j)=decide (i=j):=by
  show(i ==j)=decide (i=j);rw [Bool.beq_eq_decide_eq]
 show(if eqC (.int i) (.int j)=true then R.ok (W.sh (D.bl (eqvD (.int i) (.int j)))) else .no)=_;rw [if_pos (by rfl),h]
theorem cx_1(i j:Int):neD (.int i) (.int j)= .ok (.sh (.bl (!decide (i=j)))):=by
 have h:eqvD (.int i) (.int j)=decide (i=j):=by
  show(i ==j)=decide (i=j);rw [Bool.beq_eq_decide_eq]
 show(if eqC (.int i) (.int j)=true then R.ok (W.sh (D.bl (!eqvD (.int i) (.int j)))) else .no)=_;rw [if_pos (by rfl),h]
theorem by_0(x y:Str):neD (.str x) (.str y)= .ok (.sh (.bl (!decide (x=y)))):=rfl
theorem r_9{i j:Int}(h1: -18446744073709551616 < i)(h2:i < 18446744073709551616):mulC i j=true:=decide_eq_true (.inl (by omega))
theorem ai_6{i j:Int}(h1: -18446744073709551616 < j)(h2:j < 18446744073709551616):mulC i j=true:=decide_eq_true (.inr (by omega))
theorem l_3{i j:Int}(h:mulC i j=true):s_7 (.int i) (.int j)= .ok (.sh (.int (i * j))):=by unfold s_7 intD;simp only [h,if_true]
theorem l_4(i j:Int):g_7 (.int i) (.int j)= .ok (.sh (.int (i + j))):=rfl
theorem y_4(i j:Int):subD (.int i) (.int j)= .ok (.sh (.int (i - j))):=rfl
theorem m_9{i j:Int}(h1:0 < j)(h2:j < 1361129467683753853853498429727072845824):n_4 (.int i) (.int j)= .ok (.sh (.int (i / j))):=by
 exact if_pos (show divC i j=true from decide_eq_true ⟨h1,by omega⟩)
theorem c_2{i j:Int}(h1:0 < j):d_6 (.int i) (.int j)= .ok (.sh (.int (i % j))):=by
 exact if_pos (show modC i j=true from decide_eq_true h1)
theorem ak_6(i j:Int):ltD (.int i) (.int j)= .ok (.sh (.bl (decide (i < j)))):=rfl
theorem y_5(i j:Int):leD (.int i) (.int j)= .ok (.sh (.bl (decide (i≤j)))):=rfl
theorem dc_2(i j:Int):gtD (.int i) (.int j)= .ok (.sh (.bl (decide (j < i)))):=rfl
theorem bd_2{x y:Str}(h:x.length + y.length≤16777216):g_7 (.str x) (.str y)= .ok (.sh (.str (x ++ y))):=if_pos h
theorem ar_2{i j:Int}(h:powC i j=true):powD (.int i) (.int j)= .ok (.sh (.int (i ^ j.toNat))):=by unfold powD intD;simp only [h,if_true]
theorem y_6{i j:Int}(h1:0≤j)(h2:j≤1000000)(h3: -18446744073709551616 < i)(h4:i < 18446744073709551616):powC i j=true:=decide_eq_true ⟨h1,by omega,by omega⟩
theorem t_2(ds:List D):lenD [.lst ds]= .ok (.sh (.int ds.length)):=rfl
theorem ag_2{x:Str}(h:x.length≤16777216):lenD [.str x]= .ok (.sh (.int x.length)):=if_pos h
theorem bs_4(i j:Int):maxD [.int i, .int j]= .ok (.sh (.int (max i j))):=by
 show R.ok (W.sh (D.int (if j > i then j else i)))=_;rw [show(if j > i then j else i)=max i j by rw [Int.max_def];split <;> split <;> omega]
theorem dh_8(i j:Int):minD [.int i, .int j]= .ok (.sh (.int (min i j))):=by
 show R.ok (W.sh (D.int (if j < i then j else i)))=_;rw [show(if j < i then j else i)=min i j by rw [Int.min_def];split <;> split <;> omega]
theorem n_6{ds:List D}{i:Int}{d:D}(h:atI ds i=some d):ixD (.lst ds) (.int i)= .ok (.sh d):=by unfold ixD;simp only [h]
theorem by_1{x:Str}{i:Int}{c:Nat}(hz:x.length≤16777216)(h:atI x.cps.toList i=some c):ixD (.str x) (.int i)= .ok (.sh (.str ⟨#[c]⟩)):=by
 unfold ixD;simp only [h,if_pos hz]
theorem bd_3{α:Type}{xs:List α}{i:Int}{x:α}(h0:0≤i)(h:xs[i.toNat]? =some x):atI xs i=some x:=by
 have hl:i.toNat < xs.length:=(List.getElem?_eq_some_iff.mp h).1;unfold atI ixN;rw [if_pos h0,if_pos (by omega)];exact h
theorem ce_7(fg:FG)(g:FS)(I:Nat→SE→Prop){n:Nat}{lo:Int}{Δ:SE}(h0:I 0 Δ)
  (step:∀k Δ,k < n→I k Δ→∃Δ1,fg (.int (lo + (k:Int))) Δ= .ok Δ1∧∃Δ2,(g Δ1= .nx Δ2∨g Δ1= .ct Δ2)∧I (k + 1) Δ2):∃Δ',l_2 fg g (q_7 lo n) Δ= .nx Δ'∧I n Δ':=by
 have all:∀(m k:Nat) (Δ:SE),k + m=n→I k Δ→∃Δ',l_2 fg g ((List.range' k m).map fun(j:Nat)=>D.int (lo + (j:Int))) Δ= .nx Δ'∧I n Δ':=by
  intro m
  induction m with
  |zero=>intro k Δ e h;exact⟨Δ,rfl,by rw [←e];exact h⟩
  |succ m ih=>
   intro k Δ e h;obtain⟨Δ1,e1,Δ2,e2,h2⟩:=step k Δ (by omega) h;obtain⟨Δ',e3,h3⟩:=ih (k + 1) Δ2 (by omega) h2;refine⟨Δ', ?_,h3⟩;rw [List.range'_succ,List.map_cons];show(match fg (.int (lo + (k:Int))) Δ with
    | .ok Δ1=>(match g Δ1 with
     | .nx Δ2=>l_2 fg g _ Δ2
     | .ct Δ2=>l_2 fg g _ Δ2
     | .bk Δ2=> .nx Δ2
     |r=>r)
    | .ex _=> .no
    | .no=> .no)=_
   rw [e1];rcases e2 with e2|e2
   ·simp only [e2];exact e3
   ·simp only [e2];exact e3
 obtain⟨Δ',e,h⟩:=all n 0 Δ (by omega) h0;refine⟨Δ', ?_,h⟩;unfold q_7;rw [List.range_eq_range'];exact e
theorem aa_7(fg:FG)(g:FS)(I:Nat→SE→Prop){ds:List D}{Δ:SE}(h0:I 0 Δ)
  (step:∀k d Δ,ds[k]? =some d→I k Δ→∃Δ1,fg d Δ= .ok Δ1∧∃Δ2,(g Δ1= .nx Δ2∨g Δ1= .ct Δ2)∧I (k + 1) Δ2):∃Δ',l_2 fg g ds Δ= .nx Δ'∧I ds.length Δ':=by
 have all:∀(m k:Nat) (Δ:SE),k + m=ds.length→I k Δ→∃Δ',l_2 fg g (ds.drop k) Δ= .nx Δ'∧I ds.length Δ':=by
  intro m
  induction m with
  |zero=>
   intro k Δ e h;rw [List.drop_eq_nil_of_le (by omega)];exact⟨Δ,rfl,by rw [←e];exact h⟩
  |succ m ih=>
   intro k Δ e h;obtain⟨d,d1,d2⟩:=u_6 (l:=ds) (i:=k) (by omega);obtain⟨Δ1,e1,Δ2,e2,h2⟩:=step k d Δ d1 h;obtain⟨Δ',e3,h3⟩:=ih (k + 1) Δ2 (by omega) h2;refine⟨Δ', ?_,h3⟩;rw [d2];show(match fg d Δ with
    | .ok Δ1=>(match g Δ1 with
     | .nx Δ2=>l_2 fg g (ds.drop (k + 1)) Δ2
     | .ct Δ2=>l_2 fg g (ds.drop (k + 1)) Δ2
     | .bk Δ2=> .nx Δ2
     |r=>r)
    | .ex _=> .no
    | .no=> .no)=_
   rw [e1];rcases e2 with e2|e2
   ·simp only [e2];exact e3
   ·simp only [e2];exact e3
 have:=all ds.length 0 Δ (by omega) h0
 rwa [List.drop_zero] at this
theorem ce_8{fg:FGc}{p:FT}{f:FE}{δ:DE}{F:Int→D}:∀(n:Nat) (lo:Int),(∀k:Nat,k < n→∃δ1 w,fg (.int (lo + (k:Int))) δ= .ok δ1∧p δ1= .ok true∧f δ1= .ok w∧w.d=F (lo + (k:Int)))→
  n_5 fg p f δ (q_7 lo n)= .ok ((List.range n).map fun(k:Nat)=>F (lo + (k:Int))):=by
 have all:∀(es:List Nat) (lo:Int),(∀k∈es,∃δ1 w,fg (.int (lo + ((k:Nat):Int))) δ= .ok δ1∧p δ1= .ok true∧f δ1= .ok w∧w.d=F (lo + (k:Int)))→
   n_5 fg p f δ (es.map fun(k:Nat)=>D.int (lo + (k:Int)))= .ok (es.map fun(k:Nat)=>F (lo + (k:Int))):=by
  intro es lo
  induction es with
  |nil=>intro _;rfl
  |cons k es ih=>
   intro h;obtain⟨δ1,w,e1,e2,e3,e4⟩:=h k List.mem_cons_self;have e5:=ih fun j hj=>h j (List.mem_cons_of_mem _ hj);rw [List.map_cons,List.map_cons];show((fg (.int (lo + (k:Int))) δ).bind fun δ1=>(p δ1).bind fun b=>if b=true then(f δ1).bind fun w=>(n_5 fg p f δ _).bind fun rs=> .ok (w.d::rs) else n_5 fg p f δ _)=_;rw [e1];simp only [R.bind_ok,e2,if_true,e3];rw [e5];simp only [R.bind_ok,e4]
 intro n lo h;exact all (List.range n) lo fun k hk=>h k (List.mem_range.mp hk)
theorem bd_4{j:Int}(h1: -4611686018427387903≤j)(h2:j < 4611686018427387904):rng1 [.int j]= .ok (q_7 0 j.toNat):=by
 have h:j.natAbs < 4611686018427387904:=by omega
 exact if_pos h
theorem u_9{m:Nat}{fi:FI}{fg:FGc}{p:FT}{f:FE}{δ:DE}{ds rs:List D}(h:fi δ= .ok ds)(hl:ds.length≤16777216)(hc:n_5 fg p f (δ ++ List.replicate m none) ds= .ok rs):g_3 m fi fg p f δ= .ok (.ow (.lst rs)):=by
 unfold g_3;rw [h];simp only [R.bind_ok];rw [if_pos hl,hc];rfl
theorem dh_9(d:D):Sl.pub (.sh d)=some d:=rfl
theorem di_0(d:D):Sl.pub (.ow d)=none:=rfl
theorem di_1:Sl.pub .no=none:=rfl
theorem di_2(d:D):Sl.any (.sh d)=some d:=rfl
theorem di_3(d:D):Sl.any (.ow d)=some d:=rfl
theorem di_4:Sl.any .no=none:=rfl
theorem cx_2(d:D):Sl.give (.sh d)= .sh d:=rfl
theorem cx_3(d:D):Sl.give (.ow d)= .sh d:=rfl
theorem cx_4:Sl.give .no= .no:=rfl
theorem b_4{g h:FS}{Δ Δ':SE}(e:g Δ= .nx Δ'):sSeq g h Δ=h Δ':=by unfold sSeq;rw [e]
theorem ag_3{n:Nat}{g:FS}{ds:List D}{w:W}(e:g (start3 n ds)= .rt w):bodyD n g ds= .ok w:=by unfold bodyD;rw [e]
theorem v_0{fg:FGc}{p:FT}{f:FE}{δ:DE}(P:D→Bool)(F:D→D):∀(ds:List D),(∀d∈ds,∃δ1,fg d δ= .ok δ1∧p δ1= .ok (P d)∧(P d=true→∃w,f δ1= .ok w∧w.d=F d))→
  n_5 fg p f δ ds= .ok ((ds.filter P).map F)
 | [],_=>rfl
 |d::ds,h=>by
  obtain⟨δ1,e1,e2,e3⟩:=h d List.mem_cons_self;have ih:=v_0 P F ds fun x hx=>h x (List.mem_cons_of_mem _ hx);show((fg d δ).bind fun δ1=>(p δ1).bind fun b=>if b=true then(f δ1).bind fun w=>(n_5 fg p f δ ds).bind fun rs=> .ok (w.d::rs) else n_5 fg p f δ ds)=_;rw [e1];simp only [R.bind_ok,e2];cases hP:P d with
  |true=>
   obtain⟨w,e4,e5⟩:=e3 hP;rw [if_pos rfl,e4,ih];simp only [R.bind_ok,e5,List.filter_cons_of_pos hP,List.map_cons]
  |false=>
   rw [if_neg Bool.false_ne_true,ih,List.filter_cons_of_neg (by rw [hP];exact Bool.false_ne_true)]
theorem bj_4{fg:FGc}{f:FE}{δ:DE}(F:D→D)(ds:List D)(h:∀d∈ds,∃δ1 w,fg d δ= .ok δ1∧f δ1= .ok w∧w.d=F d):
  n_5 fg (fun _=> .ok true) f δ ds= .ok (ds.map F):=by
 have:=v_0 (fg:=fg) (p:=fun _=> .ok true) (f:=f) (δ:=δ) (fun _=>true) F ds fun d hd=>by
  obtain⟨δ1,w,e1,e2,e3⟩:=h d hd;exact⟨δ1,e1,rfl,fun _=>⟨w,e2,e3⟩⟩
 rw [this,List.filter_eq_self.mpr fun _ _=>rfl]
theorem bj_5:isT "int" .non=some false:=rfl
theorem bs_5(b:Bool):isT "int" (.bl b)=some true:=rfl
theorem bj_6(i:Int):isT "int" (.int i)=some true:=rfl
theorem bj_7(x:Str):isT "int" (.str x)=some false:=rfl
theorem bj_8(l:List D):isT "int" (.lst l)=some false:=rfl
theorem bj_9(l:List D):isT "int" (.tup l)=some false:=rfl
theorem bd_5:isT "bool" .non=some false:=rfl
theorem bk_0(b:Bool):isT "bool" (.bl b)=some true:=rfl
theorem bd_6(i:Int):isT "bool" (.int i)=some false:=rfl
theorem bd_7(x:Str):isT "bool" (.str x)=some false:=rfl
theorem bd_8(l:List D):isT "bool" (.lst l)=some false:=rfl
theorem bd_9(l:List D):isT "bool" (.tup l)=some false:=rfl
theorem bk_1:isT "str" .non=some false:=rfl
theorem bs_6(b:Bool):isT "str" (.bl b)=some false:=rfl
theorem bk_2(i:Int):isT "str" (.int i)=some false:=rfl
theorem bk_3(x:Str):isT "str" (.str x)=some true:=rfl
theorem bk_4(l:List D):isT "str" (.lst l)=some false:=rfl
theorem bk_5(l:List D):isT "str" (.tup l)=some false:=rfl
theorem be_0:isT "list" .non=some false:=rfl
theorem bk_6(b:Bool):isT "list" (.bl b)=some false:=rfl
theorem be_1(i:Int):isT "list" (.int i)=some false:=rfl
theorem be_2(x:Str):isT "list" (.str x)=some false:=rfl
theorem be_3(l:List D):isT "list" (.lst l)=some true:=rfl
theorem be_4(l:List D):isT "list" (.tup l)=some false:=rfl
theorem av_0:isT "tuple" .non=some false:=rfl
theorem be_5(b:Bool):isT "tuple" (.bl b)=some false:=rfl
theorem av_1(i:Int):isT "tuple" (.int i)=some false:=rfl
theorem av_2(x:Str):isT "tuple" (.str x)=some false:=rfl
theorem av_3(l:List D):isT "tuple" (.lst l)=some false:=rfl
theorem av_4(l:List D):isT "tuple" (.tup l)=some true:=rfl
end L3
namespace L3
open PySem PySem.Spec PyProof.Rows L2
variable{K:Frag}{fd:FuncData}{mg:Str→Option Value}{us:List Value}{base:Heap}{H:Hp}{X:Cx}{pos:Pos}{v:V}
def be_6:List Value→Bool
 | .ref _::r=>be_6 r
 |l=>l == [.type "ValueError", .type "Exception", .type "BaseException", .type "object"]
theorem ac_5(self:Value):∀{l:List Value},be_6 l=true→refuseLoop self "__setattr__" l=pure ()
 | [],e=>by cases e
 | .ref c::r,e=>by rw [refuseLoop_ref];exact ac_5 self e
 | .type n::r,e=>by
  have e':(Value.type n::r)= [.type "ValueError", .type "Exception", .type "BaseException", .type "object"]:=eq_of_beq e;rw [e'];exact PySem.F.store_ValueError.passes self
 | .none::r,e=>by cases(eq_of_beq (show((Value.none::r) == [.type "ValueError", .type "Exception", .type "BaseException", .type "object"])=true from e))
 | .bool b::r,e=>by cases(eq_of_beq (show((Value.bool b::r) == [.type "ValueError", .type "Exception", .type "BaseException", .type "object"])=true from e))
 | .int b t::r,e=>by cases(eq_of_beq (show((Value.int b t::r) == [.type "ValueError", .type "Exception", .type "BaseException", .type "object"])=true from e))
 | .str b t::r,e=>by cases(eq_of_beq (show((Value.str b t::r) == [.type "ValueError", .type "Exception", .type "BaseException", .type "object"])=true from e))
 | .builtin b::r,e=>by cases(eq_of_beq (show((Value.builtin b::r) == [.type "ValueError", .type "Exception", .type "BaseException", .type "object"])=true from e))
theorem ar_3:∀{l:List Value},be_6 l=true→l.contains (.type "object")=true∧l.isEmpty=false
 | [],e=>by cases e
 | .ref c::r,e=>⟨by rw [List.contains_cons,(ar_3 (l:=r) e).1,Bool.or_true],rfl⟩
 | .type n::r,e=>by
  have e':(Value.type n::r)= [.type "ValueError", .type "Exception", .type "BaseException", .type "object"]:=eq_of_beq e;rw [e'];exact⟨by decide,rfl⟩
 | .none::r,e=>by cases(eq_of_beq (show((Value.none::r) == [.type "ValueError", .type "Exception", .type "BaseException", .type "object"])=true from e))
 | .bool b::r,e=>by cases(eq_of_beq (show((Value.bool b::r) == [.type "ValueError", .type "Exception", .type "BaseException", .type "object"])=true from e))
 | .int b t::r,e=>by cases(eq_of_beq (show((Value.int b t::r) == [.type "ValueError", .type "Exception", .type "BaseException", .type "object"])=true from e))
 | .str b t::r,e=>by cases(eq_of_beq (show((Value.str b t::r) == [.type "ValueError", .type "Exception", .type "BaseException", .type "object"])=true from e))
 | .builtin b::r,e=>by cases(eq_of_beq (show((Value.builtin b::r) == [.type "ValueError", .type "Exception", .type "BaseException", .type "object"])=true from e))
structure XCls(K:Frag)(C:Addr):Prop where
 sa:findIn K (.ref C) "__setattr__" =some (some (.builtin "object.__setattr__"))
 over:(clsIn K C).any (fun cd=>be_6 cd.mro && cd.hasDict)=true
section
variable{prog:Program}{w:World}{A:Around}{E:Value→Shared→Prop}{s:Shared}{K:Frag}{x C:Addr}{R:Result→Shared→Prop}
theorem cx_5{ox:Obj}{od:Option Obj}{name:Str}{tk:Tok}{v:Value}(X:K.In s.heap)(I:InstAt s.heap x ox C od)(xc:XCls K C)(ha:findIn K (.ref C) name=some none)
  (h:wpAny (model prog w) A.in1 (Builtin.ObjectAttr.storeInOwnDict (.ref x) (.ref C) (.str name tk) name v false)
   (fun fin s'=>match fin with| .done f=>R (.ok f) s'| .again c'=>c'.quiet=true∧codeAny (model prog w) A c' R s') (fun e s'=>R (.error e) s') s):
  codeAny (model prog w) A (.call (.builtin "object.__setattr__") ⟨[.ref x, .str name tk,v], []⟩) R s:=by
 have SF:=PySem.F.store_object;obtain⟨cd,hc,ho⟩:=any_some xc.over;rw [Bool.and_eq_true] at ho;obtain⟨hs1,hs2⟩:=ar_3 ho.1;have sub:Looks (model prog w) s.heap (isInstance (.ref x) (.type "object")) true:=I.type.andThen (looks_mroIn X (by unfold mroIn;rw [hc,Option.bind_some,if_neg (by rw [hs2];decide),hs1]));refine codeAny_call_builtin SF.slot.plain SF.entry (@check_slot (model prog w) _ _ s "object.__setattr__" "object" "__setattr__" (.ref x) [.str name tk,v] [] _ SF.kind SF.split sub (SF.args (.ref x) (.str name tk) v) ?_);have hm:Looks (model prog w) s.heap (mroOf (.ref C)) cd.mro:=(looks_clsIn X hc).andThen .now;rw [osa_eq,refuse_eq];refine wpAny_bind (wpAny_bind (I.type.here (wpAny_bind (hm.here ?_))));rw [ac_5 _ ho.1];refine wpAny_pure (wpAny_bind (I.type.here (wpAny_bind ((looks_findIn X ha).here (wpAny_bind (wpAny_pure (a:=(none:Option Value)) ?_))))));exact h
theorem ce_9{D:Addr}{name:Str}{tk:Tok}{v:Value}{Q:PySem.Fin→Shared→Prop}(hD:s.heap.get? D=some {cls:= .type "dict",data:= .dict #[]})
  (h:∀h' tk,h'.Ns1 D (fun y=>if y=name then some v else none)→Heap.SameBut D s.heap h'→Q (.done (.ret .none)) {s with heap:=h',toks:=tk}):wpAny (model prog w) A (Builtin.ObjectAttr.storeInDict D (.str name tk) name v) Q E s:=by
 have bu:s.heap.Ns D fun _=>none:=⟨_, #[],_,hD,rfl,fun _ he=>(Array.not_mem_empty _ he).elim,fun _=>rfl⟩;unfold Builtin.ObjectAttr.storeInDict Builtin.ObjectAttr.newKeyGuard
 wp_walk using wpAny_nsSet1 (Heap.Ns1.of_empty bu)
 intro h' n sb;obtain⟨o,es,ep,at1,is1,few⟩:=n.count (.cons name v .nil);have le:es.size≤sizeLine + 1:=Nat.le_trans few (by simp [sizeLine_eq]);exact wpAny_bind (wpAny_lookBehind at1 (is1▸pastItsLine_dict le) (wpAny_pure (h h' _ n sb)))
theorem bk_7{name:Str}{v:Value}{us:Array Value}{Q:Unit→Shared→Prop}(X:K.In s.heap)(hx:s.heap.get? x=some ⟨.ref C,none, .fields us, #[]⟩)(xc:XCls K C)(ha:findIn K (.ref C) name=some none)
  (h:∀h' tk,h'.get? x=some ⟨.ref C,some s.heap.objs.size, .fields us, #[]⟩→h'.Ns1 s.heap.objs.size (fun y=>if y=name then some v else none)→(∀b o,b≠x→s.heap.get? b=some o→h'.get? b=some o)→Q () {s with heap:=h',toks:=tk}):
  wpAny (model prog w) A (setAttr (.ref x) name v) Q E s:=by
 have I:InstAt s.heap x ⟨.ref C,none, .fields us, #[]⟩ C none:=⟨hx,rfl,rfl,True.intro⟩;refine set_plain X I xc.sa (cx_5 (s:={s with toks:=s.toks + 1}) X I xc ha ?_);obtain⟨cd,hc,hd'⟩:=any_some xc.over;rw [Bool.and_eq_true] at hd';refine wpAny_bind (wpAny_pure (wpAny_bind (wpAny_bind (wpAny_loadPart (s:={s with toks:=s.toks + 1}) hx (wpAny_bind (Looks.here (s:={s with toks:=s.toks + 1}) (looks_clsIn X hc) ?_))))));rw [hd'.2]
 
 have neD:x≠s.heap.objs.size:=Nat.ne_of_lt (Heap.lt_size hx);have old:∀b o,b≠x→s.heap.get? b=some o→((s.heap.push {cls:= .type "dict",data:= .dict #[]}).update x fun o=>{o with dict:=some s.heap.objs.size}).get? b=some o:=fun b o hb e=>by
  rw [Heap.get?_update_ne _ _ _ _ hb];exact Heap.get?_push_of_some _ e
 have itself:=Heap.get?_update_self (fun o:Obj=>{o with dict:=some s.heap.objs.size}) (Heap.get?_push_of_some {cls:= .type "dict",data:= .dict #[]} hx) rfl;have isD:((s.heap.push {cls:= .type "dict",data:= .dict #[]}).update x fun o=>{o with dict:=some s.heap.objs.size}).get? s.heap.objs.size=some {cls:= .type "dict",data:= .dict #[]}:=by
  rw [Heap.get?_update_ne _ _ _ _ (Ne.symm neD)];exact Heap.get?_push_size _ rfl
 refine wpAny_bind (wpAny_alloc' (wpAny_bind (wpAny_update' (Heap.get?_push_of_some _ hx) (wpAny_pure (ce_9 isD fun h' tk n sb=>h h' tk ?_ n fun b o hb e=> ?_)))))
 ·rw [sb.2 x neD];exact itself
 ·rw [sb.2 b (Nat.ne_of_lt (Heap.lt_size e))];exact old b o hb e
end
def XE(a:Addr)(o:Obj):HO:= .ext fun h=>h.get? a=some o
theorem XE.ok{P:Program}{w:World}{h:Heap}{a:Addr}{o:Obj}(e:h.get? a=some o):ObjOk P w H h a (XE a o):=⟨e,⟨o,e⟩,fun _ _ p k=>k _ p⟩
theorem XE.get{P:Program}{w:World}{h:Heap}{a:Addr}{o:Obj}(x:HOk P w H h)(e:H a=some (XE a o)):h.get? a=some o:=(x a _ e).1
theorem XO.ok{P:Program}{w:World}{h:Heap}{a C:Addr}{dx:Option Addr}{us:Array Value}{sl:Array (Option Value)}(e:h.get? a=some ⟨.ref C,dx, .fields us,sl⟩)(c2:us[2]? =some .none):ObjOk P w H h a (XO a C dx):=
 ⟨⟨us,sl,e,c2⟩,⟨_,e⟩,fun _ _ ⟨us,sl,p,c⟩ k=>⟨us,sl,k _ p,c⟩⟩
section
variable{X:Cx}{zd:List (Addr×Obj)}{σ:Sg}{H:Hp}{s:Shared}
theorem Inv.excSet{a:Addr}{o0 o1:Obj}{h':Heap}{t':Nat}{fs:List (Str×V)}{mA:Str→Option Value}(I:Inv X zd σ H s)(e:H a=some (XE a o0))(hx:h'.get? a=some o1)(hn:h'.Ns1 s.heap.objs.size mA)(hr:∀f,RelO (fs.lookup f) (mA f))
  (k:∀b o,b≠a→s.heap.get? b=some o→h'.get? b=some o):Inv X zd σ (upd (upd H s.heap.objs.size (.xd fs)) a (XE a o1)) {s with heap:=h',toks:=t'}:=by
 have hf:H s.heap.objs.size=none:=I.hok.fresh (Nat.le_refl _);have other:∀b u,H b=some u→b≠a→(upd (upd H s.heap.objs.size (.xd fs)) a (XE a o1)) b=some u:=fun b u q n=>by
  rw [a_5 n,a_5 (b_9 q hf)];exact q
 refine I.un (h':=h') ⟨fun b o q n _ _=>k b o (fun z=>by subst z;rw [e] at n;cases n) q,fun b o q n _ _=>⟨o.slots,k b o (fun z=>by subst z;rw [e] at n;cases n) q⟩,fun b o q n _=> ?_,fun b o q _=> ?_,fun b xs q=> ?_,fun b o u q=> ?_,fun b ps q=> ?_⟩ fun b u q=> ?_
 ·rw [a_5 (fun z=>by subst z;rw [e] at n;cases n),a_5 (Nat.ne_of_lt (Heap.lt_size q))];exact n
 ·by_cases z:b=a
  ·subst z;exact⟨_,hx⟩
  ·exact⟨_,k b o z q⟩
 ·exact other b _ q fun z=>by subst z;rw [e] at q;cases q
 ·exact other b _ q fun z=>by subst z;rw [e] at q;cases q
 ·exact⟨#[],by rw [other b _ q fun z=>by subst z;rw [e] at q;cases q];simp⟩
 ·by_cases z:b=a
  ·subst z;rw [a_9] at q;cases q;exact XE.ok hx
  ·rw [a_5 z] at q
   by_cases z2:b=s.heap.objs.size
   ·subst z2;rw [a_9] at q;cases q;exact⟨mA,hn,hr⟩
   ·rw [a_5 z2] at q;refine(I.hok b u q).stay (fun c v hc z3=>k c v ?_ z3) (fun c z3=>other c _ z3 fun z4=> ?_) fun c xs z3=>other c _ z3 fun z4=> ?_
    ·rcases hc with rfl|hc
     ·exact z
     ·exact fun z4=>by subst z4;rw [e] at hc;cases hc
    ·subst z4;rw [e] at z3;cases z3
    ·subst z4;rw [e] at z3;cases z3
theorem Inv.forget{a:Addr}{φ:Heap→Prop}(I:Inv X zd σ (upd H a (.ext φ)) s)(hn:H a=none):Inv X zd σ H s:=by
 have sub:∀b u,H b=some u→upd H a (.ext φ) b=some u:=fun b u e=>by rw [a_5 (b_9 e hn)];exact e
 have nf:∀b,upd H a (.ext φ) b=none→H b=none:=fun b e=>by
  by_cases z:b=a
  ·subst z;exact hn
  ·rw [a_5 z] at e;exact e
 have bk:∀b u,upd H a (.ext φ) b=some u→(∀ψ,u≠ .ext ψ)→H b=some u:=fun b u e n=>by
  by_cases z:b=a
  ·subst z;rw [a_9] at e;cases e;exact absurd rfl (n φ)
  ·rw [a_5 z] at e;exact e
 have B:=I.base;refine⟨I.ok,I.os,I.bare,⟨B.keep,B.slot,fun b u q n x=>nf b (B.free b u q n x),B.there,fun b xs q=>bk _ _ (B.tups b xs q) (fun _ z=>nomatch z),fun b u v q=>bk _ _ (B.frzs b u v q) (fun _ z=>nomatch z),fun b ps q=> ?_⟩,I.loc,I.cell,nf _ I.free,fun x c e=>nf _ (I.freeC x c e),fun p hp=> ?_,fun b u e=> ?_,I.len⟩
 ·obtain⟨more,z⟩:=B.tbls b ps q;exact⟨more,bk _ _ z (fun _ z=>nomatch z)⟩
 ·obtain⟨p1,p2,p3⟩:=I.pin p hp;exact⟨p1,nf _ p2,p3⟩
 ·exact(I.hok b u (sub b u e)).stay (fun _ _ _ q=>q) (fun c q=>bk _ _ q (fun _ z=>nomatch z)) (fun c xs q=>bk _ _ q (fun _ z=>nomatch z))
end
def ai_7(C:Addr)(f:Str):Sp:=fun vs H Q _=>∃a v us,vs= [.ref a,v]∧H a=some (XE a ⟨.ref C,none, .fields us, #[]⟩)∧∀d,H d=none→d≠a→Q .non (upd (upd H d (.xd [(f,v)])) a (XE a ⟨.ref C,some d, .fields us, #[]⟩))
section
variable{X:Cx}{C:Addr}{f:Str}{pos pos' p1 p2:Pos}{x y:Str}
def dc_3(C:Addr)(f:Str):TS:=fun D σ H=>∃a v us,σ[0]? =some (some (.ref a))∧σ[1]? =some (some v)∧H a=some (XE a ⟨.ref C,none, .fields us, #[]⟩)∧∀d,H d=none→d≠a→D.nx σ (upd (upd H d (.xd [(f,v)])) a (XE a ⟨.ref C,some d, .fields us, #[]⟩))
theorem by_2(xc:XCls X.K C)(hn:findIn X.K (.ref C) f=some none)(ho:PE X (.Name x p1) (tVar 0))(hv:PE X (.Name y p2) (tVar 1))(hs:swapsWith (.Name y p2) (some (.Attribute (.Name x p1) f pos')) pos.line X.env=pure false:=by rfl):
  PS X (.Assign [.Attribute (.Name x p1) f pos'] (.Name y p2) pos) (dc_3 C f):=by
 intro zd s σ H D I h;obtain⟨a,v,us,e0,e1,ha,q⟩:=h;refine plainObj_wpAny_Assign_Attribute (thn (hv zd s σ H (fun y H1=>y=v∧H1=H) I ⟨v,e1,rfl,rfl⟩) fun u s1 ⟨y,H1,I1,ry,ey,eH⟩=>thn (ho zd s1 σ H1 (fun y H2=>y= .ref a∧H2=H) I1 ⟨.ref a,e0,rfl,eH⟩) fun ov s2 ⟨x,H2,I2,rx,ex,eH2⟩=> ?_) hs;subst ey ex eH eH2;obtain rfl:ov=Value.ref a:=rx;refine bk_7 I2.kIn (XE.get I2.hok ha) xc hn fun h' tk g1 g2 g3=> ?_;refine⟨σ,_,Inv.excSet I2 (t':=tk) (fs:= [(f,y)]) ha g1 g2 (fun g=> ?_) g3,q _ (I2.hok.fresh (Nat.le_refl _)) ?_⟩
 ·show RelO ([(f,y)].lookup g) (if g=f then some u else none)
  by_cases z:g=f
  ·subst z;rw [if_pos rfl];simp only [List.lookup_cons,beq_self_eq_true];exact ry
  ·rw [if_neg z];have zb:(g ==f)=false:=by simpa using z
   simp only [List.lookup_cons,zb,List.lookup_nil]
   trivial
 ·exact Nat.ne_of_gt (Heap.lt_size (XE.get I2.hok ha))
end
abbrev bmVE:List Value:= [.type "ValueError", .type "Exception", .type "BaseException", .type "object"]
def m_1(es:Array DictEntry):Bool:=es.toList.all fun e=>match e.key with| .str _ _=>true|_=>false
theorem bs_7{es:Array DictEntry}(h:m_1 es=true):StrKeys es:=fun e he=>by
 have q:=List.all_eq_true.mp h e (Array.mem_toList_iff.mpr he);revert q;cases hk:e.key with
 |str n t=>intro _;exact⟨n,t,rfl⟩
 |_=>intro q;cases q
theorem by_3{N:Addr}{oc:Value}{od:Option Addr}{es:Array DictEntry}{ep:Nat}{sl:Array (Option Value)}(l:K.lookup N=some ⟨oc,od, .dict es ep,sl⟩)(k:m_1 es=true){h:Heap}(X:K.In h):h.Ns N (nsFind es):=
 ⟨_,es,ep,X _ _ l,rfl,bs_7 k,fun _=>rfl⟩
def XMk(K:Frag)(C fI:Addr):Prop:=∃(nm q:Str) (N:Addr) (bs bm:List Value) (sn:List Str) (sub:List Value) (ab:Bool) (col:Option Bool) (dd:Option Addr) (k0 k1 k2 k3 k5:Option Value) (mN:Str→Option Value),
 K.lookup C=some (excClassObj nm q C N bs bm true sn sub ab col dd k0 k1 k2 k3 k5 "ValueError.__new__")∧(∀h:Heap,K.In h→OwnTail h bmVE bm)∧(∀h:Heap,K.In h→h.Ns N mN)∧mN "__init__" =some (.ref fI)
theorem di_5{C fI N L:Addr}{nm q:Str}{bs:List Value}{sn:List Str}{sub:List Value}{ab:Bool}{col:Option Bool}{dd:Option Addr}{k0 k1 k2 k3 k5:Option Value}{oc c0 oL:Value}{od ddL odL:Option Addr}{es esL:Array DictEntry}{ep epL:Nat}{sl sl0 slL:Array (Option Value)}{cd:ClassData}
  (lc:K.lookup C=some (excClassObj nm q C N bs (.ref L::bmVE) true sn sub ab col dd k0 k1 k2 k3 k5 "ValueError.__new__")) (ln:K.lookup N=some ⟨oc,od, .dict es ep,sl⟩) (kn:m_1 es=true) (hi:nsFind es "__init__" =some (.ref fI))
  (ll:K.lookup L=some ⟨c0,ddL, .cls cd,sl0⟩) (lm:K.lookup cd.ns=some ⟨oL,odL, .dict esL epL,slL⟩) (km:m_1 esL=true) (hL:nsFind esL "__init__" =none):XMk K C fI:=
 ⟨nm,q,N,bs,_,sn,sub,ab,col,dd,k0,k1,k2,k3,k5,nsFind es,lc,fun h X=> .own (X _ _ ll) (by_3 lm km X) hL .base,fun h X=>by_3 ln kn X,hi⟩
theorem cx_6{C N L:Addr}{nm q:Str}{bs:List Value}{sn:List Str}{sub:List Value}{ab:Bool}{col:Option Bool}{dd:Option Addr}{k0 k1 k2 k3 k5:Option Value}
  (lc:K.lookup C=some (excClassObj nm q C N bs (.ref L::bmVE) true sn sub ab col dd k0 k1 k2 k3 k5 "ValueError.__new__")) (sa:findIn K (.ref C) "__setattr__" =some (some (.builtin "object.__setattr__"))):XCls K C:=
 ⟨sa,by unfold clsIn;rw [lc];rfl⟩
theorem by_4{c:Bool}{P:Program}{w:World}{x qual sf at_ fl:Str}{st:Stmt}{f C:Addr}{k:Nat}(F:Fun K x qual st f fd)(S:FnScope [sf,at_] [sf,at_] (b_5 st))
  (zj:∀(zp:Value) (A:Around) (outer:List Env) (s:Shared) (H:Hp) (E:XK),PSs (cxN c P w K mg base [sf,at_] qual (b_5 st) f zp A outer s H E) (f_4 st) (dc_3 C fl)):FnX P w K mg base c (k + 1) f fd [sf,at_] (ai_7 C fl):=by
 refine Fun.okX F S (fun vs H Q E h=> ?_) fun zp A outer s H vs Q E hr h=>⟨_,zj zp A outer s H E, ?_⟩
 ·obtain⟨a,v,us,rfl,_⟩:=h;rfl
 ·obtain⟨a,v,us,rfl,ha,q⟩:=h;exact⟨a,v,us,rfl,rfl,ha,q⟩
theorem ai_8{h:Heap}:∀{bm:List Value},OwnTail h bmVE bm→bm.contains (.type "BaseException")=true
 |_, .base=>by decide
 |_, .own _ _ _ t=>by rw [List.contains_cons,ai_8 t,Bool.or_true]
structure XC(P:Program)(w:World)(K:Frag)(mg:Str→Option Value)(base:Heap)(c:Str)(f:Str)(C:Addr):Prop where
 at_:ClsAt K c C
 glob:mg c=some (.ref C)
 kp:keepIn K (.ref C)=true
 xc:XCls K C
 made:∃(fI:Addr) (fd:FuncData) (ps:List Str) (oI:Obj),XMk K C fI∧K.lookup fI=some oI∧oI.cls= .type "function" ∧FnX P w K mg base false 1 fI fd ps (ai_7 C f)∧Binds K fd ps []
section
variable{X:Cx}{zd:List (Addr×Obj)}{σ:Sg}{H:Hp}{s:Shared}{C:Addr}{c f:Str}
theorem cn_0{e d:Addr}{o0 o1 x:HO}:upd (upd (upd H e o0) d x) e o1=upd (upd H d x) e o1:=by
 funext b
 unfold upd
 by_cases z:b=e
 ·rw [if_pos z,if_pos z]
 ·rw [if_neg z,if_neg z,if_neg z]
theorem cf_0{u:Value}{Q:Value→Shared→Prop}{E:Value→Shared→Prop}(M:XC X.prog X.w X.K X.mg X.base c f C)(hr:RoomC false 2 X.A)(I:Inv X zd σ H s)(r:RelV v u)
  (h:∀a d t s',H a=none→H d=none→d≠a→s.heap.objs.size≤a→Inv X zd σ (upd (upd H d (.xd [(f,v)])) a (XE a ⟨.ref C,some d, .fields #[.ref t, .none, .none, .none, .bool false, .none], #[]⟩)) s'→Q (.ref a) s'):
  wpAny (model X.prog X.w) X.A (call (.ref C) [u]) Q E s:=by
 obtain⟨fI,fd,ps,oI,⟨nm,q,N,bs,bm,sn,sub,ab,col,dd,k0,k1,k2,k3,k5,mN,lc,tl,hn,hi⟩,lI,hI,F,hb⟩:=M.made;have KX:=I.kIn;obtain⟨hh,g,dr,tk,os⟩:=s;refine ck_2 PySem.F.excBase_ValueError (tl hh KX) (KX _ _ lc) (hn hh KX) hi (KX _ _ lI) hI (fun h' e me ze=> ?_) (by show 1≤sizeLine;rw [sizeLine_eq];omega);obtain⟨kk,new,t,et,_,_⟩:=me;have I2:Inv X zd σ (upd H e (XE e ⟨.ref C,none, .fields #[.ref t, .none, .none, .none, .bool false, .none], #[]⟩)) ⟨h',g,dr,tk,os⟩:=I.laid (h':=h') (t':=tk) kk ze (XE.ok et);have he:H e=none:=I.hok.fresh ze;have r2:Vals [.ref e,v] [.ref e,u]:= .cons rfl (.cons r .nil);have sp:ai_7 C f [.ref e,v] (upd H e (XE e ⟨.ref C,none, .fields #[.ref t, .none, .none, .none, .bool false, .none], #[]⟩)) (fun y H2=>y= .non∧∃d,H d=none∧d≠e∧H2=upd (upd H d (.xd [(f,v)])) e (XE e ⟨.ref C,some d, .fields #[.ref t, .none, .none, .none, .bool false, .none], #[]⟩)) (fun _ _ _=>False):=
  ⟨e,v,_,rfl,a_9,fun d hd ne=>⟨rfl,d,by rw [a_5 ne] at hd;exact hd,ne,cn_0⟩⟩
 have hl: [Value.ref e,u].length=ps.length:=F.len _ _ _ _ sp;have hb':=hb ⟨h',g,dr,tk,os⟩ [.ref e,u] I2.kIn (by rw [List.append_nil];exact hl);rw [List.append_nil] at hb';refine wpAny_call (codeAny_mono (F.run _ X.stack _ _ ⟨[.ref e,u], []⟩ [.ref e,u] [.ref e,v] _ _ (hr.make C [u] []) (I2.env0.make C [u] []) hb' r2 sp) fun r s' hq=> ?_);cases r with
 |error x=>
  obtain⟨a,C',dx,T,H',_,_,_,_,_,_,_,_,_,_,z⟩:=hq;exact z.elim
 |ok fl=>
  cases fl with
  |ret y=>
   obtain⟨v',H',I3,rv,ev,d,hd,ne,eH⟩:=I2.after hq;subst ev eH;exact⟨rv,h e d t s' he hd ne ze I3⟩
  |next=>exact False.elim hq
  |brk=>exact False.elim hq
  |cont=>exact False.elim hq
def Lk1(X:Cx)(EX:EXS):Prop:=∀(zd:List (Addr×Obj)) (σ:Sg) (H H':Hp) (s s':Shared) (a C:Addr) (dx:Option Addr) (o:Obj) (us:Array Value),Inv X zd σ H s→Inv X zd σ H' s'→s'.heap.get? a=some o→o.cls= .ref C→o.dict=dx→o.data= .fields us→us[1]? =some .none→us[2]? =some .none→
 H' a=none→s.heap.objs.size≤a→EXE X.K (EX σ) (.ref C) dx H'→X.xe (.ref a) s'
theorem an_6{cm:Bool}{P:Program}{w:World}{N:List Str}{qual:Str}{scope:Scope}{f:Addr}{cd:Value}{A:Around}{outer:List Env}{s:Shared}{E:XK}:
  Lk1 (cxN cm P w K mg base N qual scope f cd A outer s H E) (fun _=>EXof K E):=fun zd σ H H' s s' a C dx o us I I' he hc hx hd h1 c2 n1 z1 q=>bb_4 I I' he hc hx hd h1 c2 n1 z1 q.of
def t_9(c f:Str)(js:List Nat)(fe:FE):FS:=fun Δ=>match fe (vsh (gsome js Δ)) with
 | .ok w=> .ex ⟨c, [f], [w.d]⟩ (gsome js Δ)
 | .ex x=> .ex x (gsome js Δ)
 | .no=> .no
theorem bk_9{EX:EXS}(js:List Nat){e:Expr}{fe:FE}{np zf pos:Pos}(M:XC X.prog X.w X.K X.mg X.base c f C)(hr:RoomC true 2 X.A)(l1:Lk1 X EX)(he:ED X EX e fe)(hg:Gl X c:=by rfl)(hdb:(c ==("__debug__" :Str))=false:=by decide)
  (hs:starEach [e] X.env=(false,eval e X.env)::starEach [] X.env:=by rfl) (hpl:(backTo zf (starEach [] X.env)).any (·.1)=false:=by rfl):
  SD X EX (.Raise (some (.Call (.Name c np) [e] [] zf)) none pos) (t_9 c f js fe):=by
 intro zd s σ H D I q;obtain⟨H0,G0,G,Δ,O,E,q⟩:=q;obtain⟨G',O',sg,E'⟩:=E.gsome js;obtain⟨fI,fd,ps,oI,⟨nm,qn,N,bs,bm,sn,sub,ab,col,dd,k0,k1,k2,k3,k5,mN,lc,tl,hn,hi⟩,lI,hI,F,hb⟩:=M.made;have hB:bm.contains (.type "BaseException")=true:=ai_8 (tl s.heap I.kIn);rw [arm_exec_Raise];have tD0:tD X.K EX fe σ H fun v H1=>∃v' w G1, [v]= [v']∧fe (vsh (gsome js Δ))= .ok w∧Step G' H G1 H1∧Has X.K G1 v' w.d:=by
  refine⟨G',vsh (gsome js Δ),E'.st.gh,E'.gsh, ?_⟩;unfold t_9 at q;cases e1:fe (vsh (gsome js Δ)) with
  |ok w=>exact WP.intro fun v G1 H1 st r=>⟨v,w,G1,rfl,rfl,st,r⟩
  |ex x=>rw [e1] at q;exact q σ G' H O' E' sg
  |no=>rw [e1] at q;exact q
 have mk:wpAny (model X.prog X.w) X.A (eval (.Call (.Name c np) [e] [] zf) X.env) (fun v s1=>∃a t dx,v= .ref a∧s1.heap.get? C=some (excClassObj nm qn C N bs bm true sn sub ab col dd k0 k1 k2 k3 k5 "ValueError.__new__")∧
   s1.heap.get? a=some {cls:= .ref C,dict:=dx,data:= .fields #[.ref t, .none, .none, .none, .bool false, .none]}∧X.xe (.ref a) s1) X.xe s:=by
  refine wpAny_Call_Name_kw (q_8 I hg M.glob ?_ hdb);refine callWith_K (h₀:=X.base) I.ok.mod.kin M.kp (thn (f_6 he m_7 hs zf zd s σ H (fun vs H1=>∃v' w G1,vs= [v']∧fe (vsh (gsome js Δ))= .ok w∧Step G' H G1 H1∧Has X.K G1 v' w.d) I tD0) fun us s1 ⟨vs,H1,I1,r,v,w,G1,ev,ew,st,hv⟩=>⟨I1.kIn, ?_⟩) hs hpl;subst ev;obtain⟨u,rfl,ru⟩:=r.one;refine cf_0 M hr.loose I1 ru fun a d t s2 ha hd ne za I2=> ?_;have ga:=XE.get I2.hok a_9;refine⟨a,t,some d,rfl,I2.kIn _ _ lc,ga, ?_⟩;have I3:Inv X zd σ (upd H1 d (.xd [(f,v)])) s2:=Inv.forget I2 (by rw [a_5 ne.symm];exact ha);refine l1 zd σ H1 _ s1 s2 a C (some d) _ _ I1 I3 ga rfl rfl rfl rfl rfl (by rw [a_5 ne.symm];exact ha) za ?_;have st2:Step G1 H1 (upd G1 d (.xd [(f,v)])) (upd H1 d (.xd [(f,v)])):=Step.new st.gh hd _;refine⟨⟨c, [f], [w.d]⟩,upd G1 d (.xd [(f,v)]),st2.gh, .with_ M.at_ a_9 rfl (.cons (hv.mono st2.gg) .nil), ?_⟩;unfold t_9 at q;rw [ew] at q;exact q σ _ _ O' ((E'.grow st).grow st2) (sg.trans (st.gg.trans st2.gg))
 refine wpAny_bind (wpAny_standAt (ax_1 hB (hr.hd rfl) (wpAny_bind (wpAny_mono mk (fun v s3 h3=>wpAny_bind (wpAny_standAt (wpAny_pure h3))) fun _ _ x=>x))))
end
section
variable{X:Cx}{zd:List (Addr×Obj)}{σ:Sg}{H:Hp}{s:Shared}
theorem aa_8{M:Model}{A:Around}{E:Value→Shared→Prop}{i:Nat}{n:Str}{Q:Unit→Shared→Prop}(I:Inv X zd σ H s)(hN:X.N.Nodup)(hi:X.N[i]? =some n)(hk:X.env.scope.names.lookup n=some .local)
  (h:∀s',Inv X zd (σ.set i none) H s'→Q () s'):wpAny M A (do bindName X.env n .none;unbindBehindTheSuite X.env n pos) Q E s:=by
 obtain⟨m,hn,hl⟩:=id I.loc;have ck:(X.env.scope.kind == .class || (X.env.scope.kind == .module && X.env.locals != X.env.globals))=false:=by rw [I.ok.kind];rfl
 have hiσ:i < σ.length:=by rw [I.len];exact(List.getElem?_eq_some_iff.mp hi).1
 have cne:=I.cne;have tracked:∀{a:Addr} {h':Heap},(∃o,s.heap.get? a=some o∧H a=none)→Heap.SameBut a s.heap h'→HOk X.prog X.w H h':=fun{a h'} ha hs b ob e=>by
  obtain⟨_,_,ak⟩:=ha;refine(I.hok b ob e).stay (fun c w' hc q=>(hs.2 c ?_).trans q) (fun _ q=>q) fun _ _ q=>q
  rintro rfl
  rcases hc with rfl|hc
  ·rw [ak] at e;cases e
  ·rw [ak] at hc;cases hc
 refine wpAny_nameGoes_keeps hk hn ck fun h' v hn' hs=> ?_;obtain⟨oL,_,_,hoL,_⟩:=id hn;refine h _ ⟨I.ok,I.os,I.bare,⟨fun b o e n hb hx=> ?_,fun b o e n hb hx=> ?_,I.base.free,fun b o e hx=> ?_,I.base.tups,I.base.frzs,I.base.tbls⟩,⟨_,hn',fun j y v' e1 e2 e3=> ?_⟩,fun y c e=> ?_,I.free,I.freeC,fun p hp=> ?_,tracked ⟨oL,hoL,I.free⟩ hs,by simpa using I.len⟩
 ·exact(hs.2 b (Nat.ne_of_lt (Nat.lt_of_lt_of_le (Heap.lt_size e) I.ok.above))).trans (I.base.keep b o e n hb hx)
 ·obtain⟨sl,e1⟩:=I.base.slot b o e n hb hx;exact⟨sl,(hs.2 b (Nat.ne_of_lt (Nat.lt_of_lt_of_le (Heap.lt_size e) I.ok.above))).trans e1⟩
 ·obtain⟨o',e1⟩:=I.base.there b o e hx;exact⟨o',(hs.2 b (Nat.ne_of_lt (Nat.lt_of_lt_of_le (Heap.lt_size e) I.ok.above))).trans e1⟩
 ·by_cases hj:j=i
  ·subst hj;rw [List.getElem?_set_self hiσ] at e2;cases e2
  ·rw [List.getElem?_set_ne (Ne.symm hj)] at e2;obtain⟨u',r',q⟩:=hl j y v' e1 e2 e3;refine⟨u',r', ?_⟩;rcases q with⟨k,e⟩|⟨k,c,e,z⟩
   ·refine .inl ⟨k, ?_⟩;have:y≠n:=fun e=>hj (ao_3 hN e1 (e▸hi));simp [this,e]
   ·exact .inr ⟨k,c,e,z.sameBut hs (cne y c e)⟩
 ·obtain⟨w',z⟩:=I.cell y c e;exact⟨w',z.sameBut hs (cne y c e)⟩
 ·obtain⟨e,n,ne,nf,d⟩:=I.pin p hp;exact⟨(hs.2 p.1 ne).trans e,n,ne,nf,d⟩
theorem Inv.speak{H':Hp}{s':Shared}{a C:Addr}{dx:Option Addr}{us:Array Value}{sl:Array (Option Value)}(I:Inv X zd σ H s)(I':Inv X zd σ H' s')(za:s.heap.objs.size≤a)(e:s'.heap.get? a=some ⟨.ref C,dx, .fields us,sl⟩)(c2:us[2]? =some .none)(hn:H' a=none):Inv X zd σ (upd H' a (.frz ⟨.ref C,dx, .fields us,sl⟩ (XO a C dx))) s':=by
 have B:=I'.base;have ns:∀b o,X.s₀.heap.get? b=some o→b≠a:=fun b o q z=>absurd (Nat.lt_of_lt_of_le (Heap.lt_size q) (Nat.le_trans I.sz za)) (by rw [z];exact Nat.lt_irrefl _);have lt:∀b:Addr,b < s.heap.objs.size→b≠a:=fun b h z=>absurd (Nat.lt_of_lt_of_le h za) (by rw [z];exact Nat.lt_irrefl _);have up:∀b u,H' b=some u→upd H' a (.frz ⟨.ref C,dx, .fields us,sl⟩ (XO a C dx)) b=some u:=fun b u q=>by rw [a_5 (b_9 q hn)];exact q
 refine⟨I'.ok,I'.os,I'.bare,⟨B.keep,B.slot,fun b o q n x=>by rw [a_5 (ns b o q)];exact B.free b o q n x,B.there,fun b xs q=>up _ _ (B.tups b xs q),fun b o u q=>up _ _ (B.frzs b o u q),fun b ps q=>let⟨m,z⟩:=B.tbls b ps q;⟨m,up _ _ z⟩⟩,I'.loc,I'.cell, ?_,fun x c q=> ?_,fun p hp=> ?_,fun b u q=> ?_,I'.len⟩
 ·rw [a_5 (lt _ I.lt)];exact I'.free
 ·obtain⟨v,hv⟩:=I.cell x c q;rw [a_5 (lt _ hv.lt)];exact I'.freeC x c q
 ·obtain⟨p1,p2,p3⟩:=I'.pin p hp;exact⟨p1,by rw [a_5 (lt _ (Heap.lt_size (I.pin p hp).1))];exact p2,p3⟩
 ·by_cases z:b=a
  ·subst z;rw [a_9] at q;cases q;exact⟨e,XO.ok e c2⟩
  ·rw [a_5 z] at q;exact(I'.hok b u q).stay (fun _ _ _ q=>q) (fun c q=>up _ _ q) fun c xs q=>up _ _ q
end
def tryB(X:Cx)(zd:List (Addr×Obj))(W:Value→Shared→Prop):Cx:={X with pn:=X.pn ++ zd,xe:=W}
structure HX where
 a:Addr
 C:Addr
 dx:Option Addr
 us:Array Value
 sl:Array (Option Value)
 c2:us[2]? =some .none
def HX.ho(e:HX):HO:= .frz ⟨.ref e.C,e.dx, .fields e.us,e.sl⟩ (XO e.a e.C e.dx)
def hand(X:Cx)(e:HX):Cx:={X with A:=X.A.mark (some (.ref e.a)),calm:=false,xe:=fun _ _=>False,H₀:=upd X.H₀ e.a e.ho}
section
variable{X:Cx}{zd ai:List (Addr×Obj)}{σ:Sg}{H:Hp}{s:Shared}{W:Value→Shared→Prop}{e:HX}
theorem ok_tryB:(tryB X zd W).Ok↔X.Ok:=⟨fun ok=>⟨ok.mod,ok.kind,ok.glob,ok.blt,ok.above,ok.inj,ok.has,ok.cab,ok.hd,ok.frames,ok.stk,ok.exf,ok.bs,ok.bsz,ok.noex,ok.exfs,ok.funs,ok.frf⟩,
 fun ok=>⟨ok.mod,ok.kind,ok.glob,ok.blt,ok.above,ok.inj,ok.has,ok.cab,ok.hd,ok.frames,ok.stk,ok.exf,ok.bs,ok.bsz,ok.noex,ok.exfs,ok.funs,ok.frf⟩⟩
theorem Inv.toB(I:Inv X zd σ H s):Inv (tryB X zd W) [] σ H s:=⟨ok_tryB.mpr I.ok,I.os,I.bare,I.base,I.loc,I.cell,I.free,I.freeC,fun p hp=>I.pin p (by have hp:p∈(X.pn ++ zd) ++ []:=hp;rwa [List.append_nil] at hp),I.hok,I.len⟩
theorem Inv.ofB(I:Inv (tryB X zd W) ai σ H s):Inv X zd σ H s:=⟨ok_tryB.mp I.ok,I.os,I.bare,I.base,I.loc,I.cell,I.free,I.freeC,fun p hp=>I.pin p (List.mem_append_left _ hp),I.hok,I.len⟩
theorem SP.ofB{D:Ends}{f:Flow}(h:SP (tryB X zd W) ai D f s):SP X zd D f s:=by
 cases f with
 |next=>obtain⟨σ',H',I,q⟩:=h;exact⟨σ',H',Inv.ofB I,q⟩
 |brk=>obtain⟨σ',H',I,q⟩:=h;exact⟨σ',H',Inv.ofB I,q⟩
 |cont=>obtain⟨σ',H',I,q⟩:=h;exact⟨σ',H',Inv.ofB I,q⟩
 |ret u=>obtain⟨v,σ',H',I,r,q⟩:=h;exact⟨v,σ',H',Inv.ofB I,r,q⟩
theorem Un.hput{fs ex:List Addr}{H0 H':Hp}{h h':Heap}{a:Addr}{o:Obj}{u:HO}(U:Un fs ex H0 H' h h')(z:h.objs.size≤a)(q:H' a=some (.frz o u)):Un fs ex (upd H0 a (.frz o u)) H' h h':=by
 have nb:∀b o,h.get? b=some o→b≠a:=fun b o g e=>absurd (Heap.lt_size g) (by rw [e];exact Nat.not_lt.mpr z);refine⟨fun b o g n=>U.keep b o g (by rwa [a_5 (nb b o g)] at n),fun b o g n=>U.slot b o g (by rwa [a_5 (nb b o g)] at n),fun b o g n=>U.free b o g (by rwa [a_5 (nb b o g)] at n),U.there,fun b xs e=> ?_,fun b ob v e=> ?_,fun b ps e=> ?_⟩
 all_goals
  by_cases hb:b=a
  ·subst hb;rw [a_9] at e;cases e
   try exact q
  ·rw [a_5 hb] at e
   first|exact U.tups b _ e|exact U.frzs b _ _ e|exact U.tbls b _ e
theorem Un.htake{fs ex:List Addr}{H0 H1 H':Hp}{h h1 h':Heap}{a:Addr}{v:HO}(U0:Un fs ex H0 H1 h h1)(n:H1 a=none)(U:Un fs ex (upd H0 a v) H' h h')(z:h.objs.size≤a):Un fs ex H0 H' h h':=by
 have nb:∀b o,h.get? b=some o→b≠a:=fun b o g e=>absurd (Heap.lt_size g) (by rw [e];exact Nat.not_lt.mpr z);refine⟨fun b o g q=>U.keep b o g (by rwa [a_5 (nb b o g)]),fun b o g q=>U.slot b o g (by rwa [a_5 (nb b o g)]),fun b o g q=>U.free b o g (by rwa [a_5 (nb b o g)]),U.there,fun b xs e=> ?_,fun b ob v e=> ?_,fun b ps e=> ?_⟩
 ·by_cases hb:b=a
  ·subst hb;have:=U0.tups b xs e;rw [n] at this;cases this
  ·exact U.tups b xs (by rwa [a_5 hb])
 ·by_cases hb:b=a
  ·subst hb;have:=U0.frzs b ob v e;rw [n] at this;cases this
  ·exact U.frzs b ob v (by rwa [a_5 hb])
 ·by_cases hb:b=a
  ·subst hb;obtain⟨m,q⟩:=U0.tbls b ps e;rw [n] at q;cases q
  ·exact U.tbls b ps (by rwa [a_5 hb])
theorem Inv.toH(I:Inv X zd σ H s)(z:X.s₀.heap.objs.size≤e.a)(q:H e.a=some e.ho):Inv (hand X e) zd σ H s:=by
 have nb:∀b o,X.s₀.heap.get? b=some o→b≠e.a:=fun b o g y=>absurd (Heap.lt_size g) (by rw [y];exact Nat.not_lt.mpr z);refine⟨⟨I.ok.mod,I.ok.kind,I.ok.glob,I.ok.blt,I.ok.above,I.ok.inj,I.ok.has,I.ok.cab,fun z=>absurd z Bool.false_ne_true,I.ok.frames,I.ok.stk,I.ok.exf,fun b o g=> ?_,I.ok.bsz,I.ok.noex,I.ok.exfs,I.ok.funs,fun b hb=> ?_⟩,I.os,I.bare,Un.hput I.base z q,I.loc,I.cell,I.free,I.freeC,I.pin,I.hok,I.len⟩
 ·obtain⟨g1,g2⟩:=I.ok.bs b o g;exact⟨g1,(a_5 (nb b o g1)).trans g2⟩
 ·obtain⟨_,u,hu,_⟩:=I.ok.funs.mem hb;exact(a_5 (nb b u hu)).trans (I.ok.frf b hb)
theorem Inv.ofH{p0:List (Addr×Obj)}{σ0:Sg}{H0:Hp}{s0:Shared}(J:Inv X p0 σ0 H0 s0)(n:H0 e.a=none)(z:X.s₀.heap.objs.size≤e.a)(I:Inv (hand X e) zd σ H s):Inv X zd σ H s:=⟨J.ok,I.os,I.bare,Un.htake J.base n I.base z,I.loc,I.cell,I.free,I.freeC,I.pin,I.hok,I.len⟩
end
def dc_4(i:Nat):Fl→Fl
 | .nx Δ=> .nx (Δ.set i .no)
 | .bk Δ=> .bk (Δ.set i .no)
 | .ct Δ=> .ct (Δ.set i .no)
 | .rt w=> .rt w
 |_=> .no
def Catches(K:Frag)(C2:Addr)(tb:List (Str×Bool)):Prop:=∀c b,tb.lookup c=some b→∀C,ClsAt K c C→exmOne K (.ref C) (.ref C2)=some b
theorem Ev.drop{H0:HB}{G0 G H:Hp}{σ:Sg}{Δ:SE}{O:OS}(E:Ev K H0 G0 G H σ Δ O)(i:Nat):Ev K H0 G0 G H (σ.set i none) (Δ.set i .no) O:=by
 refine⟨E.st,by rw [List.length_set,List.length_set];exact E.len,fun j d e=> ?_,fun j z d e zo=> ?_,E.out,E.dj,fun j d e=> ?_,fun j d e=> ?_⟩
 ·rcases i_1 e with⟨rfl,q⟩|⟨n,q⟩
  ·cases q
  ·rw [List.getElem?_set_ne n];exact E.sh j d q
 ·rcases i_1 e with⟨rfl,q⟩|⟨n,q⟩
  ·subst q;cases zo
  ·rw [List.getElem?_set_ne n];exact E.ow j z d q zo
 ·rcases i_1 e with⟨rfl,q⟩|⟨n,q⟩
  ·cases q
  ·rw [List.getElem?_set_ne n];exact E.lk j d q
 ·rcases i_1 e with⟨rfl,q⟩|⟨n,q⟩
  ·cases q
  ·rw [List.getElem?_set_ne n];exact E.lt j d q
section
variable{X:Cx}{EX:EXS}{i:Nat}{tb:List (Str×Bool)}{g h:FS}{c n:Str}{C2:Addr}{body ag:List Stmt}{b₀:Stmt}{np hp pos:Pos}
theorem Has.exc{G:Hp}{a C:Addr}{dx:Option Addr}{o:Obj}{x:Xn}(hn:G a=none)(e:ExcAt K G (.ref C) dx x):Has K (upd G a (.frz o (XO a C dx))) (.ref a) (.exn x.c x.ns x.vs):=by
 cases e with
 |bare hc=>exact .exn0 hc a_9
 |with_ hc hd hl r=>exact .exn1 hc a_9 (by rw [a_5 (b_9 hd hn)];exact hd) hl (r.mono (k_5 hn _))
theorem cn_1{H0:HB}{G0 G1:Hp}{D:Ends}{r:Fl}(q:Fin K EX H0 G0 G1 D (dc_4 i r)):Fin K h_7 H0 G0 G1 {nx:=fun σ H=>D.nx (σ.set i none) H,rt:=D.rt,bk:=fun σ H=>D.bk (σ.set i none) H,ct:=fun σ H=>D.ct (σ.set i none) H} r:=by
 cases r with
 |nx Δ=>exact fun σ G H O E sg=>q _ G H O (E.drop i) sg
 |bk Δ=>exact fun σ G H O E sg=>q _ G H O (E.drop i) sg
 |ct Δ=>exact fun σ G H O E sg=>q _ G H O (E.drop i) sg
 |rt w=>exact q
 |rv d Δ=>exact q.elim
 |ex x Δ=>exact q.elim
 |no=>exact q
end
structure XGet(K:Frag)(C:Addr)(f:Str):Prop where
 ga:findIn K (.ref C) "__getattribute__" =some (some (.builtin "BaseException.__getattribute__"))
 gt:findIn K (.ref C) "__getattr__" =some none
 be:mroIn K C (.type "BaseException")=some true
 hd:hasDictIn K C=true
 no:findIn K (.ref C) f=some none
section
variable{prog:Program}{w:World}{A:Around}{E:Value→Shared→Prop}{s:Shared}{K:Frag}{x C dx:Addr}{f:Str}
theorem cn_2{expr:Bool}{Q:Value→Shared→Prop}{ox:Obj}{mA:Str→Option Value}{v:Value}(X:K.In s.heap)(hx:s.heap.get? x=some ox)(hc:ox.cls= .ref C)(hdx:ox.dict=some dx)(hnc:notCls ox=true)(hn:s.heap.Ns1 dx mA)(g:XGet K C f)
  (hv:mA f=some v) (hh:handedIn v=true) (h:Q v {s with toks:=s.toks + 1}):wpAny (model prog w) A (getAttr (.ref x) f expr) Q E s:=by
 obtain⟨od,ho,hl⟩:=aw_1 hn;have I:InstAt s.heap x ox C (some od):=⟨hx,hc,hnc,by rw [hdx];exact ho⟩;obtain⟨hp,gg,d,t,os⟩:=s;have L0:=I.type (M:=model prog w);have L1:=looks_findIn (M:=model prog w) X g.ga;have L2:=looks_findIn (M:=model prog w) X g.gt;have LF:=looks_find (M:=model prog w) X I (findObj_own g.hd g.no rfl (by rw [hl,hv]));have sub:Looks (model prog w) hp (isInstance (.ref x) (.type "BaseException")) true:=L0.andThen (looks_mroIn X g.be);have SL:=PySem.F.attr_ValueError.ga;have hx0:(expr && onTheHeap (Value.builtin "BaseException.__getattribute__"))=false:=by cases expr <;> rfl
 unfold getAttr getAttrBy;refine wpAny_bind (wpAny_mkText (wpAny_holding (wpAny_bind (L0.at (wpAny_bind (L1.at ?_))))));show wpAny _ _ (getAttrByItsOwn _ _ _ _ _ _) _ _ _;unfold getAttrByItsOwn;refine wpAny_bind (L2.at (wpAny_bind (wpAny_attempt ?_)));refine wpAny_holding ?_;unfold callGetattribute;rw [hx0,if_neg Bool.false_ne_true];unfold boundAndCalled;rw [SL.bind];refine wpAny_bind (wpAny_pure (wpAny_call (codeAny_call_builtin SL.plain PySem.F.entry_bexc_ga (@check_slot (model prog w) _ _ ⟨hp,gg,d,t + 1,os⟩ "BaseException.__getattribute__" "BaseException" "__getattribute__" (.ref x) [.str f t] [] _ (by decide +kernel) (by decide +kernel) sub (PySem.F.args_bexc_ga _ _) ?_))));refine wpAny_bind (wpAny_pure (wpAny_bind (wpAny_pure (wpAny_bind (L0.at (wpAny_bind (LF.at ?_)))))));refine wpAny_pure ?_;show wpAny _ _ (handedOut v) _ _ _;rw [handedOut_of hh];exact wpAny_pure h
structure XInst(K:Frag)(C:Addr):Prop where
 ga:findIn K (.ref C) "__getattribute__" =some (some (.builtin "BaseException.__getattribute__"))
 gt:findIn K (.ref C) "__getattr__" =some none
 be:mroIn K C (.type "BaseException")=some true
 hd:hasDictIn K C=true
 cl:findIn K (.ref C) "__class__" =some (some (.builtin "object.__class__"))
 gs:specialIn K (.builtin "object.__class__") "__get__" =some (some (.builtin "getset_descriptor.__get__"))
 tk:takesIn K (.builtin "object.__class__")=some true
 ob:mroIn K C (.type "object")=some true
theorem cf_1{Q:Option Value→Shared→Prop}{ox:Obj}{od:Option Obj}(X:K.In s.heap)(I:InstAt s.heap x ox C od)(g:XInst K C)(h:Q (some (.ref C)) {s with toks:=s.toks + 1}):wpAny (model prog w) A (getAttr? (.ref x) "__class__") Q E s:=by
 have hf:findObj K C od "__class__" =some (.bind (.builtin "getset_descriptor.__get__") (.builtin "object.__class__")):=by
  obtain⟨cd,hc,_⟩:=any_some g.hd;unfold findObj;rw [hc,Option.bind_some,g.cl,Option.bind_some];simp [g.gs,g.tk]
 obtain⟨hp,gg,d,t,os⟩:=s;have L0:=I.type (M:=model prog w);have L1:=looks_findIn (M:=model prog w) X g.ga;have L2:=looks_findIn (M:=model prog w) X g.gt;have LF:=looks_find (M:=model prog w) X I hf;have sub:Looks (model prog w) hp (isInstance (.ref x) (.type "BaseException")) true:=L0.andThen (looks_mroIn X g.be);have SL:=PySem.F.attr_ValueError.ga;unfold getAttr? getAttrBy? getAttrBy;refine wpAny_bind (wpAny_mkText (wpAny_bind (wpAny_attempt (wpAny_holding (wpAny_bind (L0.at (wpAny_bind (L1.at ?_))))))));show wpAny _ _ (getAttrByItsOwn _ _ _ _ _ _) _ _ _;unfold getAttrByItsOwn;refine wpAny_bind (L2.at (wpAny_bind (wpAny_attempt ?_)));refine wpAny_holding ?_;unfold callGetattribute;rw [if_neg (by simp)];unfold boundAndCalled;rw [SL.bind];refine wpAny_bind (wpAny_pure (wpAny_call (codeAny_call_builtin SL.plain PySem.F.entry_bexc_ga (@check_slot (model prog w) _ _ ⟨hp,gg,d,t + 1,os⟩ "BaseException.__getattribute__" "BaseException" "__getattribute__" (.ref x) [.str "__class__" t] [] _ (by decide +kernel) (by decide +kernel) sub (PySem.F.args_bexc_ga _ _) ?_))));refine wpAny_bind (wpAny_pure (wpAny_bind (wpAny_pure (wpAny_bind (L0.at (wpAny_bind (LF.at ?_)))))));show wpAny _ _ (Builtin.ObjectAttr.bindTo (.builtin "getset_descriptor.__get__") (.builtin "object.__class__") (.ref x) (.ref C)) _ _ _;show wpAny _ _ (holding [.builtin "object.__class__"] (call (.builtin "getset_descriptor.__get__") [.builtin "object.__class__", .ref x, .ref C]) >>=ret) _ _ _;refine wpAny_bind (wpAny_holding (wpAny_call (class_get (s:=⟨hp,gg,d,t + 1,os⟩) (ox:=ox) (od:=od) X I g.ob ?_)));refine wpAny_pure ?_;show wpAny _ _ (handedOut (.ref C)) _ _ _;exact handed_on rfl (wpAny_pure h)
theorem bl_2{ox:Obj}{od:Option Obj}(g:XInst K C):KitX K (.ref x) (.ref C) (fun h=>InstAt h x ox C od) where
 ty:=fun _ _ _ I=>I.type
 it:=fun _ _ X _=>by
  obtain⟨cdD,hcD,_⟩:=any_some g.hd;unfold clsIn at hcD
  split at hcD
  ·rename_i c' d' cd' sl' ho;intro A' Q' E' s' k q;unfold isType loadHead;exact wpAny_bind (wpAny_loadPart (k _ _ (X _ _ ho)) (wpAny_pure q))
  ·cases hcD
 ne:=fun h tp dd its n sl X htp=>by
  obtain⟨cdD,hcD,_⟩:=any_some g.hd;refine Bool.eq_false_iff.mpr fun q=> ?_;have e:C=tp:=Value.ref.inj (beq_iff_eq.mp q);subst e;unfold clsIn at hcD
  split at hcD
  ·rename_i c' d' cd' sl' ho;have z:=(X _ _ ho).symm.trans htp;cases z
  ·cases hcD
 ca:=fun X I k=>cf_1 X I g k
end
theorem bl_3{G:Hp}{f:Str}{d:D}:∀{ns:List Str} {us:List V} {vs:List D},HasL K G us vs→(ns.zip vs).lookup f=some d→∃v,(ns.zip us).lookup f=some v∧Has K G v d
 | [],_,_,_,e=>by simp at e
 |n::ns,_,_, .nil,e=>by simp at e
 |n::ns,_,_, .cons h r,e=>by
  rw [List.zip_cons_cons,List.lookup_cons] at e⊢;cases z:(f ==n) with
  |true=>rw [z] at e;cases e;exact⟨_,rfl,h⟩
  |false=>rw [z] at e;exact bl_3 r e
def eAttr(cs:List Str)(f:Str)(fo:FE):FE:=fun δ=>(fo δ).bind fun w=>match w.d with
 | .exn c ns vs=>if cs.contains c=true then(match(ns.zip vs).lookup f with|some d=> .ok (.sh d)|none=> .no) else .no
 |_=> .no
def XGets(K:Frag)(cs:List Str)(f:Str):Prop:=∀c∈cs,∀C,ClsAt K c C→XGet K C f
section
variable{X:Cx}{EX:EXS}{o:Expr}{fo:FE}{f:Str}{cs:List Str}{pos:Pos}
theorem by_5(g:XGets X.K cs f)(he:ED X EX o fo)(hb:attributeBase o f X.env (eval o X.env)=eval o X.env:=by rfl):ED X EX (.Attribute o f pos) (eAttr cs f fo):=by
 intro zd s σ H Q I q;obtain⟨G,δ,g0,s0,q⟩:=q;refine bw_2 hb (thn (he zd s σ H (fun v H1=>∃G1 w,Step G H G1 H1∧Has X.K G1 v w.d∧fo δ= .ok w) I ⟨G,δ,g0,s0, ?_⟩) fun u s1 ⟨v,H1,I1,rv,G1,w,st,hv,ew⟩=> ?_)
 ·unfold eAttr at q;cases e:fo δ with
  |ok w=>exact WP.intro fun v G1 H1 st r=>⟨G1,w,st,r,rfl⟩
  |ex x=>rw [e] at q;exact q
  |no=>rw [e] at q;exact q
 ·have q2:Out X.K (EX σ) G H (match w.d with
   | .exn c ns vs=>if cs.contains c=true then(match(ns.zip vs).lookup f with|some d=> .ok (.sh d)|none=> .no) else .no
   |_=> .no) Q:=by
   unfold eAttr at q;rw [ew] at q;exact q
  clear q;revert hv q2;cases w.d with
  |exn c ns vs=>
   intro hv q2;have q2:Out X.K (EX σ) G H (if cs.contains c=true then(match(ns.zip vs).lookup f with|some d=> .ok (.sh d)|none=> .no) else .no) Q:=q2
   split at q2
   ·rename_i hc;cases el:(ns.zip vs).lookup f with
    |none=>rw [el] at q2;exact q2.elim
    |some d=>
     rw [el] at q2;cases hv with
     |exn0 _ _=>cases el
     |exn1 hc1 h1 hd1 hl1 r1=>
      rename_i a C dd ob us;obtain rfl:u=Value.ref a:=rv;obtain⟨y,ey,hy⟩:=bl_3 r1 el;obtain⟨_,⟨us',sl,eo,_⟩,_⟩:=I1.hok a _ (st.gh _ _ h1);obtain⟨mA,hn,hr⟩:=I1.hok dd _ (st.gh _ _ hd1);have hrf:=hr f;rw [ey] at hrf;cases em:mA f with
      |none=>rw [em] at hrf;exact hrf.elim
      |some z=>
       rw [em] at hrf;have rz:RelV y z:=hrf;exact cn_2 I1.kIn eo rfl rfl rfl hn (g c (List.contains_iff_mem.mp hc) C hc1) em (aw_2 rz) ⟨y,H1,I1.tok _,rz,WP.use (WP.mono st q2) st.gh hy⟩
   ·exact q2.elim
  |_=>intro _ q2;exact False.elim q2
end
def eIsC(tb:List (Str×Bool))(fo:FE):FE:=fun δ=>(fo δ).bind fun w=>match w.d with
 | .exn c _ _=>(match tb.lookup c with|some b=> .ok (.sh (.bl b))|none=> .no)
 |_=> .no
def IsOne(K:Frag)(v:Value)(tb:List (Str×Bool)):Prop:=∀c b,tb.lookup c=some b→∀C,ClsAt K c C→XInst K C∧kitOne K (.ref C) v=some b
def IsAny(K:Frag)(Cs:List Addr)(tb:List (Str×Bool)):Prop:=∀c b,tb.lookup c=some b→∀C,ClsAt K c C→XInst K C∧kitAny K (.ref C) (Cs.map Value.ref)=some b
theorem ay_3:∀{Cs:List Addr} {its:List Value},Vals (Cs.map V.ref) its→its=Cs.map Value.ref
 | [],_,r=>by cases r;rfl
 |C::Cs,_, .cons h1 h2=>by rw [ay_3 h2];cases h1;rfl
section
variable{X:Cx}{EX:EXS}{zd:List (Addr×Obj)}{σ:Sg}{G H:Hp}{s:Shared}
theorem by_6{a:Addr}{c:Str}{ns:List Str}{vs:List D}(I:Inv X zd σ H s)(g:Same G H)(h:Has X.K G (.ref a) (.exn c ns vs)):∃C ox od,ClsAt X.K c C∧InstAt s.heap a ox C od:=by
 cases h with
 |exn0 hc h1=>
  obtain⟨_,⟨us',sl,eo,_⟩,_⟩:=I.hok a _ (g _ _ h1);exact⟨_,_,none,hc,eo,rfl,rfl,True.intro⟩
 |exn1 hc h1 hd1 hl1 r1=>
  obtain⟨_,⟨us',sl,eo,_⟩,_⟩:=I.hok a _ (g _ _ h1);obtain⟨mA,⟨od,es,ep,e,_⟩,hr⟩:=I.hok _ _ (g _ _ hd1);exact⟨_,_,some od,hc,eo,rfl,rfl,e⟩
theorem bl_4{v2:V}{u2:Value}(r2:∀u,RelV v2 u→u=u2){tb:List (Str×Bool)}(k:IsOne X.K u2 tb):CallR X (.builtin "isinstance") (fun xs H Q=>∃G x c ns vs b,xs= [x,v2]∧Same G H∧Has X.K G x (.exn c ns vs)∧tb.lookup c=some b∧Q (.bl b) H):=by
 intro zd s σ H xs us Q I rv h;obtain⟨G,x,c,ns,vs,b,rfl,g,r,e,q⟩:=h;obtain⟨u,u2',rfl,r1,rr⟩:=rv.two;obtain rfl:=r2 _ rr;have fin:∀tk,EP X zd σ Q (.bool b) {s with toks:=tk}:=fun tk=>⟨.bl b,H,I.tok _,rfl,q⟩;obtain⟨a,rfl⟩:∃a,x= .ref a:=by cases r <;> exact⟨_,rfl⟩
 obtain rfl:u=Value.ref a:=r1;obtain⟨C,ox,od,hc,io⟩:=by_6 I g r;obtain⟨xi,ko⟩:=k c b e C hc;exact kia_one (bl_2 xi) I.kIn io ko (fun z=>nomatch z) fin
theorem bs_8{Cs:List Addr}{tb:List (Str×Bool)}(k:IsAny X.K Cs tb):CallR X (.builtin "isinstance") (fun xs H Q=>∃G x p c ns vs b,xs= [x, .ref p]∧Same G H∧Has X.K G x (.exn c ns vs)∧SqT X.K H p (Cs.map V.ref)∧tb.lookup c=some b∧Q (.bl b) H):=by
 intro zd s σ H xs us Q I rv h;obtain⟨G,x,p,c,ns,vs,b,rfl,g,r,ht,e,q⟩:=h;obtain⟨u,u2',rfl,r1,rr⟩:=rv.two;obtain rfl:u2'=Value.ref p:=rr;have fin:∀tk,EP X zd σ Q (.bool b) {s with toks:=tk}:=fun tk=>⟨.bl b,H,I.tok _,rfl,q⟩;obtain⟨a,rfl⟩:∃a,x= .ref a:=by cases r <;> exact⟨_,rfl⟩
 obtain rfl:u=Value.ref a:=r1;obtain⟨C,ox,od,hc,io⟩:=by_6 I g r;obtain⟨xi,ko⟩:=k c b e C hc;obtain⟨its,rv',⟨o,e1,c1,n,d1⟩,_⟩:=I.tuple ht;have ei:its=Cs.map Value.ref:=ay_3 rv';subst ei;obtain⟨oc,odi,oda,osl⟩:=o;simp only at c1 d1;subst c1 d1;exact kia_tup (bl_2 xi) I.kIn io e1 ko (fun z=>nomatch z) fin
variable{a:Expr}{fo:FE}{tb:List (Str×Bool)}{pp pos:Pos}
theorem ar_4{δ:DE}{Q:VK}{P:VK}(g0:Same G H)(s0:HasS K G σ δ)(o:Out K (EX σ) G H (eIsC tb fo δ) Q)
  (i:∀v G' H' c ns vs b,Step G H G' H'→Has K G' v (.exn c ns vs)→tb.lookup c=some b→WP K G' H' (.sh (.bl b)) Q→P v H'):tD K EX fo σ H P:=by
 refine tD.seq g0 s0 o fun w v G1 H1 _ st1 r1 o1=> ?_;revert r1 o1;cases w.d with
 |exn c ns vs=>
  intro r1 o1;have o1:Out K (EX σ) G1 H1 (match tb.lookup c with|some b=> .ok (.sh (.bl b))|none=> .no) Q:=o1;cases e:tb.lookup c with
  |none=>rw [e] at o1;exact o1.elim
  |some b=>rw [e] at o1;exact i v G1 H1 c ns vs b st1 r1 e o1
 |_=>intro _ o1;exact False.elim o1
theorem di_6{cn:Str}{C2:Addr}{p3:Pos}(k:IsOne X.K (.ref C2) tb)(ha:ED X EX a fo)(hm:X.mg "isinstance" =none)(hmC:X.mg cn=some (.ref C2))(hg:Gl X "isinstance" :=by rfl)(hgC:Gl X cn:=by rfl)(hdC:(cn ==("__debug__" :Str))=false:=by decide)
  (he:starEach [a, .Name cn p3] X.env=(false,eval a X.env)::starEach [.Name cn p3] X.env:=by rfl) (hpl:(backTo pos (starEach [.Name cn p3] X.env)).any (·.1)=false:=by rfl)
  (hs:starEach [.Name cn p3] X.env=(false,eval (.Name cn p3) X.env)::starEach [] X.env:=by rfl):ED X EX (.Call (.Name "isinstance" pp) [a, .Name cn p3] [] pos) (eIsC tb fo):=
 PE.imp (x_8 (bl_4 (v2:= .ref C2) (fun _ r=>r) k) hg hm boot_isinstance (f_6 ha (f_6 (an_0 (v:= .ref C2) hgC hmC rfl hdC) m_7 hs) he) (by decide) (by decide) he hpl) fun σ H Q ⟨G,δ,g0,s0,o⟩=>
  ar_4 g0 s0 o fun v G' H' c ns vs b st r e q=>⟨G',v,c,ns,vs,b,rfl,st.gh,r,e,WP.use q st.gh (.bl b)⟩
theorem di_7{Tn:Str}{T:String}{p3:Pos}(k:IsOne X.K (.type T) tb)(ha:ED X EX a fo)(hm:X.mg "isinstance" =none)(hmT:X.mg Tn=none)(hvT:bootBuiltins Tn=some (.type T))(hg:Gl X "isinstance" :=by rfl)(hgT:Gl X Tn:=by rfl)
  (hn:Tn≠ "__name__" :=by decide) (hdT:(Tn ==("__debug__" :Str))=false:=by decide)
  (he:starEach [a, .Name Tn p3] X.env=(false,eval a X.env)::starEach [.Name Tn p3] X.env:=by rfl) (hpl:(backTo pos (starEach [.Name Tn p3] X.env)).any (·.1)=false:=by rfl)
  (hs:starEach [.Name Tn p3] X.env=(false,eval (.Name Tn p3) X.env)::starEach [] X.env:=by rfl):ED X EX (.Call (.Name "isinstance" pp) [a, .Name Tn p3] [] pos) (eIsC tb fo):=
 PE.imp (x_8 (bl_4 (v2:= .ty T) (fun _ r=>r) k) hg hm boot_isinstance (f_6 ha (f_6 (bv_3 (v:= .ty T) hgT hmT hvT rfl hn hdT) m_7 hs) he) (by decide) (by decide) he hpl) fun σ H Q ⟨G,δ,g0,s0,o⟩=>
  ar_4 g0 s0 o fun v G' H' c ns vs b st r e q=>⟨G',v,c,ns,vs,b,rfl,st.gh,r,e,WP.use q st.gh (.bl b)⟩
def by_7(Cs:List Addr):TA:=fun _ H Q=>Q (Cs.map V.ref) H
theorem an_7:PA X [] (by_7 []):=m_7
theorem h_9{cn:Str}{C2:Addr}{p3:Pos}{es:List Expr}{Cs:List Addr}(hmC:X.mg cn=some (.ref C2))(hr:PA X es (by_7 Cs))(hgC:Gl X cn:=by rfl)(hdC:(cn ==("__debug__" :Str))=false:=by decide)
  (hs:starEach (.Name cn p3::es) X.env=(false,eval (.Name cn p3) X.env)::starEach es X.env:=by rfl):PA X (.Name cn p3::es) (by_7 (C2::Cs)):=f_6 (an_0 (v:= .ref C2) hgC hmC rfl hdC) hr hs
theorem ag_4{Cs:List Addr}{es:List Expr}{x1}{p3:Pos}(k:IsAny X.K Cs tb)(ha:ED X EX a fo)(hm:X.mg "isinstance" =none)(hes:PA X es (by_7 Cs))(hz:Nat.ble Cs.length 64=true:=by rfl)(hg:Gl X "isinstance" :=by rfl)
  (he:starEach [a, .Tuple es x1 p3] X.env=(false,eval a X.env)::starEach [.Tuple es x1 p3] X.env:=by rfl) (hpl:(backTo pos (starEach [.Tuple es x1 p3] X.env)).any (·.1)=false:=by rfl)
  (hs:starEach [.Tuple es x1 p3] X.env=(false,eval (.Tuple es x1 p3) X.env)::starEach [] X.env:=by rfl):ED X EX (.Call (.Name "isinstance" pp) [a, .Tuple es x1 p3] [] pos) (eIsC tb fo):=
 PE.imp (x_8 (bs_8 k) hg hm boot_isinstance (f_6 ha (f_6 (cj_4 hes) m_7 hs) he) (by decide) (by decide) he hpl) fun σ H Q ⟨G,δ,g0,s0,o⟩=>
  ar_4 g0 s0 o fun v G' H' c ns vs b st r e q=>by
   show(Cs.map V.ref).length≤sizeLine∧∀p,H' p=none→_;refine⟨by have:=Nat.le_of_ble_eq_true hz;rw [List.length_map,sizeLine_eq];omega,fun p hp=> ?_⟩;have st2:Step G' H' (upd G' p (.tup (Cs.map V.ref))) (upd H' p (.tup (Cs.map V.ref))):=Step.new st.gh hp _;exact⟨_,v,p,c,ns,vs,b,rfl,st2.gh,r.mono st2.gg,SqT.of a_9,e,WP.use (WP.mono st2 q) st2.gh (.bl b)⟩
end
theorem am_2:bootBuiltins "ValueError" =some (.type "ValueError"):=by decide +kernel
theorem RoomC.units{c:Bool}{k:Nat}{A:Around}(r:RoomC c k A):A.units + 64 < cLine:=by have:=r.un;omega
section
variable{X:Cx}{c:Bool}{k:Nat}{zd:List (Addr×Obj)}{W:Value→Shared→Prop}{e:HX}
theorem cn_3(h:RoomC c k (Cx.A X)):RoomC c k (Cx.A (Cx.nox X)):=h
theorem v_1(h:RoomC c k (Cx.A X)):RoomC c k (Cx.A (tryB X zd W)):=h
theorem ai_9(h:RoomC c k (Cx.A X)):RoomC false k (Cx.A (hand X e)):=h.mark _
theorem cn_4(h:Cx.calm X=true):Cx.calm (Cx.nox X)=true:=h
theorem l_5{cm:Bool}{P:Program}{w:World}{N:List Str}{qual:Str}{scope:Scope}{f:Addr}{cd:Value}{A:Around}{outer:List Env}{s:Shared}{E:XK}:
  PassesOwn (model P w) (Cx.A (cxN cm P w K mg base N qual scope f cd A outer s H E)) (Cx.env (cxN cm P w K mg base N qual scope f cd A outer s H E)) (Cx.xe (cxN cm P w K mg base N qual scope f cd A outer s H E)):=
 fun e s' h=>wpAny_leaving_again (SameStack.refl _) h
theorem Catches.one{C2:Addr}{c:Str}{C:Addr}{b:Bool}(a:ClsAt K c C)(h:exmOne K (.ref C) (.ref C2)=some b){tb:List (Str×Bool)}(r:Catches K C2 tb):Catches K C2 ((c,b)::tb):=fun c' b' e C' a'=>by
 rw [List.lookup_cons] at e;cases z:(c' ==c) with
 |true=>
  rw [z] at e;cases e;have:c'=c:=eq_of_beq z;subst this;unfold ClsAt at a a';rw [a] at a';cases a';exact h
 |false=>rw [z] at e;exact r c' b' e C' a'
theorem Catches.nil{C2:Addr}:Catches K C2 []:=fun _ _ e=>by cases e
theorem IsOne.nil{v:Value}:IsOne K v []:=fun _ _ e=>by cases e
theorem IsOne.one{v:Value}{c:Str}{C:Addr}{b:Bool}(a:ClsAt K c C)(x:XInst K C)(h:kitOne K (.ref C) v=some b){tb:List (Str×Bool)}(r:IsOne K v tb):IsOne K v ((c,b)::tb):=fun c' b' e C' a'=>by
 rw [List.lookup_cons] at e;cases z:(c' ==c) with
 |true=>
  rw [z] at e;cases e;have:c'=c:=eq_of_beq z;subst this;unfold ClsAt at a a';rw [a] at a';cases a';exact⟨x,h⟩
 |false=>rw [z] at e;exact r c' b' e C' a'
theorem IsAny.nil{v:List Addr}:IsAny K v []:=fun _ _ e=>by cases e
theorem IsAny.one{v:List Addr}{c:Str}{C:Addr}{b:Bool}(a:ClsAt K c C)(x:XInst K C)(h:kitAny K (.ref C) (v.map Value.ref)=some b){tb:List (Str×Bool)}(r:IsAny K v tb):IsAny K v ((c,b)::tb):=fun c' b' e C' a'=>by
 rw [List.lookup_cons] at e;cases z:(c' ==c) with
 |true=>
  rw [z] at e;cases e;have:c'=c:=eq_of_beq z;subst this;unfold ClsAt at a a';rw [a] at a';cases a';exact⟨x,h⟩
 |false=>rw [z] at e;exact r c' b' e C' a'
theorem XGets.nil{f:Str}:XGets K [] f:=fun _ e=>by cases e
theorem XGets.one{f c:Str}{C:Addr}(a:ClsAt K c C)(x:XGet K C f){cs:List Str}(r:XGets K cs f):XGets K (c::cs) f:=fun c' e C' a'=>by
 rcases List.mem_cons.mp e with rfl|e
 ·unfold ClsAt at a a';rw [a] at a';cases a';exact x
 ·exact r c' e C' a'
end
structure Hd where
 i:Option Nat
 tb:List (Str×Bool)
 h:FS
def hdGo(d:Hd)(x:Xn)(Δ:SE):Fl:=match d.i with
 |some i=>dc_4 i (d.h (Δ.set i (.sh (.exn x.c x.ns x.vs))))
 |none=>(match d.h Δ with
  | .ex _ _=> .no
  |r=>r)
def tryH:List Hd→Xn→SE→Fl
 | [],_,_=> .no
 |d::r,x,Δ=>match d.tb.lookup x.c with
  |some true=>hdGo d x Δ
  |some false=>tryH r x Δ
  |none=> .no
def ac_6(g:FS)(hs:List Hd):FS:=fun Δ=>match g Δ with
 | .ex x Δ1=>tryH hs x Δ1
 |r=>r
inductive HOk3(X:Cx):List ExceptHandler→List Hd→Prop where
 |nil:HOk3 X [] []
 |as_ {c n:Str} {C2:Addr} {b₀:Stmt} {ag:List Stmt} {np hp:Pos} {i:Nat} {tb:List (Str×Bool)} {h:FS} {hs:List ExceptHandler} {ds:List Hd} (hc:X.mg c=some (.ref C2)) (ct:Catches X.K C2 tb) (hh:∀e,BD (hand X e) h_7 (b₀::ag) h) (r:HOk3 X hs ds)
   (hi:X.N[i]? =some n:=by rfl) (hk:X.env.scope.names.lookup n=some .local:=by rfl) (hg:Gl X c:=by rfl) (hdb:(c ==("__debug__" :Str))=false:=by decide):
   HOk3 X (.ExceptHandler (some (.Name c np)) (some n) (b₀::ag) hp::hs) (⟨some i,tb,h⟩::ds)
 |bare {c:Str} {C2:Addr} {b₀:Stmt} {ag:List Stmt} {np hp:Pos} {tb:List (Str×Bool)} {h:FS} {hs:List ExceptHandler} {ds:List Hd} (hc:X.mg c=some (.ref C2)) (ct:Catches X.K C2 tb) (hh:∀e,BD (hand X e) h_7 (b₀::ag) h) (r:HOk3 X hs ds)
   (hg:Gl X c:=by rfl) (hdb:(c ==("__debug__" :Str))=false:=by decide):
   HOk3 X (.ExceptHandler (some (.Name c np)) none (b₀::ag) hp::hs) (⟨none,tb,h⟩::ds)
def EXh(K:Frag)(EX:EXS)(D:Ends)(ds:List Hd):EXS:=fun σ=>⟨fun x G H=>∃H0 G0 Δ O,Ev K H0 G0 G H σ Δ O∧Fin K EX H0 G0 G D (tryH ds x Δ),
 fun _ _ _ _ _ s ⟨H0,G0,Δ,O,E,f⟩=>⟨H0,G0,Δ,O,E.grow s,Fin.mono s.gg f⟩⟩
theorem cx_7{EX:EXS}{H0:HB}{G0 G1:Hp}{D:Ends}{r:Fl}(q:Fin K EX H0 G0 G1 D (match r with| .ex _ _=> .no|r=>r)):Fin K h_7 H0 G0 G1 {nx:=D.nx,rt:=D.rt,bk:=D.bk,ct:=D.ct} r:=by
 cases r with
 |nx Δ=>exact q
 |bk Δ=>exact q
 |ct Δ=>exact q
 |rt w=>exact q
 |rv d Δ=>exact q
 |ex x Δ=>exact q.elim
 |no=>exact q
section
variable{X:Cx}{EX:EXS}{g:FS}{body:List Stmt}{pos:Pos}
theorem cf_3(hN:X.N.Nodup){zd:List (Addr×Obj)}{D:Ends}{a C T2:Addr}{dx:Option Addr}{σ1 σ0:Sg}{H1 H2:Hp}{s1 s2:Shared}{h2:Heap}{x:Xn}{H0':HB}{G2 G0':Hp}{Δ1:SE}{O1:OS}{e0:HX}{h9:Heap}(ha:e0.a=a)(hC:e0.C=C)(hx:e0.dx=dx)(zz:X.s₀.heap.objs.size≤e0.a)
  (J1:Inv X zd σ0 H1 s1) (J3:Inv X zd σ1 H2 {s2 with heap:=h9}) (J4:Inv X zd σ1 (upd H2 a e0.ho) {s2 with heap:=h2}) (st4:Step G2 H2 (upd G2 a e0.ho) (upd H2 a e0.ho))
  (n1:H2 a=none) (sg2:Same G2 H2) (ea:ExcAt X.K G2 (.ref C) dx x) (LT:Looks (model X.prog X.w) h2 (typeOf (.ref a)) (.ref C)) (hcC:ClsAt X.K x.c C)
  (E1:Ev X.K H0' G0' G2 H2 σ1 Δ1 O1)
  (flt:∀{A:Around} {E:Value→Shared→Prop} {Q:Unit→Shared→Prop},(∀h3,Inv X zd σ1 (upd H2 a e0.ho) {s2 with heap:=h3}→Q () {s2 with heap:=h3})→wpAny (model X.prog X.w) A (setFlight (.ref a) none) Q E {s2 with heap:=h2}):
  ∀{hs:List ExceptHandler} {ds:List Hd},HOk3 X hs ds→Fin X.K EX H0' G0' G2 D (tryH ds x Δ1)→wpAny (model X.prog X.w) X.A (handleBy (.ref a) X.env hs) (SP X zd D) X.xe {s2 with heap:=h2}:=by
 subst ha hC hx;intro hs ds ho
 induction ho with
 |nil=>intro q;exact False.elim q
 |as_ hc ct hh r hi hk hg hdb ih=>
  rename_i c n C2 b₀ ag np hp i tb h hs ds;intro q;refine wpAny_handleBy_cons (codeAny_handlers_test ?_) (by intro z;cases z);refine q_8 (X:=hand X e0) (Inv.toH J4 zz a_9) hg hc ?_ hdb;unfold tryH at q;cases e2:tb.lookup x.c with
  |none=>simp only [e2] at q;exact q.elim
  |some b=>
   have em:=ct _ _ e2 _ hcC;refine Looks.here (s:={s2 with heap:=h2}) (exm_one J4.kIn LT em) ?_;cases b with
   |false=>simp only [e2] at q;exact ih q
   |true=>
    simp only [e2,hdGo] at q;show codeAny _ _ _ _ _;refine codeAny_handlers_suite_as (flt fun h3 J5=> ?_);refine ao_4 (X:=hand X e0) (v:= .ref e0.a) (Inv.toH J5 zz a_9) hN hi (.inl hk) rfl (fun s6 I6=> ?_) (.inr hk);have E6:=(E1.grow st4).put (i:=i) (Has.exc (sg2.free n1) ea);refine wpAny_mono (hh e0 zd s6 _ _ _ I6 ⟨H0',G0',_,_,O1,E6,cn_1 (Fin.mono st4.gg q)⟩) (fun f s7 h7=> ?_) fun _ _ z=>False.elim z;show wpAny _ X.A (do bindName X.env n .none;unbindBehindTheSuite X.env n hp) (fun _ s₃=>SP X zd D f s₃) _ s7;cases f with
    |next=>
     obtain⟨σ7,H7,I7,q7⟩:=h7;exact aa_8 (Inv.ofH J3 n1 zz I7) hN hi hk fun s8 I8=>⟨_,H7,I8,q7⟩
    |brk=>
     obtain⟨σ7,H7,I7,q7⟩:=h7;exact aa_8 (Inv.ofH J3 n1 zz I7) hN hi hk fun s8 I8=>⟨_,H7,I8,q7⟩
    |cont=>
     obtain⟨σ7,H7,I7,q7⟩:=h7;exact aa_8 (Inv.ofH J3 n1 zz I7) hN hi hk fun s8 I8=>⟨_,H7,I8,q7⟩
    |ret u=>
     obtain⟨v,σ7,H7,I7,r7,q7⟩:=h7;exact aa_8 (Inv.ofH J3 n1 zz I7) hN hi hk fun s8 I8=>⟨v,_,H7,I8,r7,q7⟩
 |bare hc ct hh r hg hdb ih=>
  rename_i c C2 b₀ ag np hp tb h hs ds;intro q;refine wpAny_handleBy_cons (codeAny_handlers_test ?_) (by intro z;cases z);refine q_8 (X:=hand X e0) (Inv.toH J4 zz a_9) hg hc ?_ hdb;unfold tryH at q;cases e2:tb.lookup x.c with
  |none=>simp only [e2] at q;exact q.elim
  |some b=>
   have em:=ct _ _ e2 _ hcC;refine Looks.here (s:={s2 with heap:=h2}) (exm_one J4.kIn LT em) ?_;cases b with
   |false=>simp only [e2] at q;exact ih q
   |true=>
    simp only [e2,hdGo] at q;show codeAny _ _ _ _ _;refine codeAny_handlers_suite (flt fun h3 J5=> ?_);have E6:=E1.grow st4;refine wpAny_mono (hh e0 zd {s2 with heap:=h3} _ _ _ (Inv.toH J5 zz a_9) ⟨H0',G0',_,_,O1,E6,cx_7 (Fin.mono st4.gg q)⟩) (fun f s7 h7=> ?_) fun _ _ z=>False.elim z;cases f with
    |next=>
     obtain⟨σ7,H7,I7,q7⟩:=h7;exact⟨_,H7,Inv.ofH J3 n1 zz I7,q7⟩
    |brk=>
     obtain⟨σ7,H7,I7,q7⟩:=h7;exact⟨_,H7,Inv.ofH J3 n1 zz I7,q7⟩
    |cont=>
     obtain⟨σ7,H7,I7,q7⟩:=h7;exact⟨_,H7,Inv.ofH J3 n1 zz I7,q7⟩
    |ret u=>
     obtain⟨v,σ7,H7,I7,r7,q7⟩:=h7;exact⟨v,_,H7,Inv.ofH J3 n1 zz I7,r7,q7⟩
theorem by_8{hd0:ExceptHandler}{hs0:List ExceptHandler}{ds:List Hd}(hN:X.N.Nodup)(hfr:X.env.frame=some X.env.locals)(hst:X.stack=X.env::X.outer)(hb:∀zd W EXB,Lk (tryB X zd W) EXB→BD (tryB X zd W) EXB body g)(ho:HOk3 X (hd0::hs0) ds):
  SD X EX (.Try body (hd0::hs0) [] [] pos) (ac_6 g ds):=by
 intro zd s σ H D I q;obtain⟨H0,G0,G,Δ,O,E,q⟩:=q;refine wpAny_Try_except ?_;have lk:Lk (tryB X zd fun e s₁=>wpAny (model X.prog X.w) X.A (noteFrame e X.env) (fun _ s₂=>wpAny (model X.prog X.w) X.A (setFlight e none) (fun _ s₃=>wpAny (model X.prog X.w) X.A (handleBy e X.env (hd0::hs0)) (SP X zd D) X.xe s₃) X.xe s₂) X.xe s₁) (EXh X.K EX D ds):=by
  intro ai σ1 H1 s1 e s2 I1 cx;obtain⟨a,C,dx,T,H2,rfl,I2,tr,n1,n2,z1,z2,x,G2,sg2,ea,H0',G0',Δ1,O1,E1,f1⟩:=Inv.raised I1 cx;show wpAny _ X.A (noteFrame (.ref a) X.env) _ _ s2;have J1:=Inv.ofB I1;have J2:=Inv.ofB I2;refine ax_0 (outer:=X.outer) (by rw [←hst];exact J2.ok.frames) (by rw [←hst];exact J2.stack) hfr tr fun h1 T2 z3 k1 t1=> ?_;refine s_8 t1 fun h2 k2 t2=> ?_;have zT2:H2 T2=none:=J2.hok.fresh z3;have J3:Inv X zd σ1 H2 {s2 with heap:=h2}:=by
   refine Inv.settle (ch:= [a,T] ++ [T2]) J1 J2 (fun b hb=> ?_) ?_
   ·have:b=a∨b=T∨b=T2:=by simpa using hb
    rcases this with rfl|rfl|rfl
    ·exact⟨z1,n1⟩
    ·exact⟨z2,n2⟩
    ·exact⟨Nat.le_trans z1 (Nat.le_trans (Nat.le_of_lt (Heap.lt_size tr.ob.choose_spec.choose_spec.1)) z3),zT2⟩
   ·rw [hst];exact k1.trans (KeepX.of_same k2)
  obtain⟨⟨oa,ua,ga,gc,gd,gf,g1,g2⟩,ne,tbk⟩:=id t2;have goa:h2.get? a=some ⟨.ref C,dx, .fields ua,oa.slots⟩:=by
   obtain⟨c1,d1,e1,s1⟩:=oa;simp only at gc gd gf;subst gc gd gf;exact ga
  let e0:HX:=⟨a,C,dx,ua,oa.slots,g2⟩
  have zz:X.s₀.heap.objs.size≤e0.a:=Nat.le_trans J1.sz z1;have J4:Inv X zd σ1 (upd H2 a e0.ho) {s2 with heap:=h2}:=Inv.speak J1 J3 z1 goa g2 n1;have st4:Step G2 H2 (upd G2 a e0.ho) (upd H2 a e0.ho):=Step.new sg2 n1 _;have LT:Looks (model X.prog X.w) h2 (typeOf (.ref a)) (.ref C):=gc▸(Looks.ld ga).andThen .now;obtain⟨hcC⟩:Nonempty (ClsAt X.K x.c C):=by cases ea with|bare hc=>exact⟨hc⟩|with_ hc _ _ _=>exact⟨hc⟩
  refine cf_3 (e0:=e0) (T2:=T2) hN rfl rfl rfl zz J1 J3 J4 st4 n1 sg2 ea LT hcC E1 (fun{A E Q} hq=> ?_) ho f1;refine s_8 t2 fun h3 k3 t3=>hq h3 ?_;refine Inv.settle (ch:= [T2]) (s':={s2 with heap:=h2}) J1 J4 (fun b hb=> ?_) (KeepX.of_same k3);have:b=T2:=by simpa using hb
  subst this;exact⟨Nat.le_trans z1 (Nat.le_trans (Nat.le_of_lt (Heap.lt_size tr.ob.choose_spec.choose_spec.1)) z3),by rw [a_5 ne];exact zT2⟩
 refine wpAny_mono (hb zd _ _ lk [] s σ H D (Inv.toB I) ⟨H0,G0,G,Δ,O,E, ?_⟩) (fun f s1 hs=> ?_) fun _ _ z=>z
 ·unfold ac_6 at q;cases e1:g Δ with
  |ex x Δ1=>
   rw [e1] at q;exact fun σ1 G1 H1 O1 E1 sg=>⟨H0,G0,Δ1,O1,E1,Fin.mono sg q⟩
  |nx Δ1=>rw [e1] at q;exact q
  |bk Δ1=>rw [e1] at q;exact q
  |ct Δ1=>rw [e1] at q;exact q
  |rt w=>rw [e1] at q;exact q
  |rv d Δ1=>rw [e1] at q;exact q
  |no=>rw [e1] at q;exact q
 ·have hs':=SP.ofB hs;cases f with
  |next=>exact wpAny_execs_nil hs'
  |brk=>exact hs'
  |cont=>exact hs'
  |ret u=>exact hs'
end
section
variable{prog:Program}{w:World}{A:Around}{E:Value→Shared→Prop}{h:Heap}{g:Array GenState}{d:Drawn}{t:Nat}{os:OsState}
variable{nm q:Str}{C N:Addr}{bs bm bmB:List Value}{ay:Bool}{sn:List Str}{sub:List Value}{ab:Bool}{col:Option Bool}{dd:Option Addr}{k0 k1 k2 k3 k5:Option Value}{B newId ah:String}
theorem bs_9(FB:ExcBaseFacts B newId ah bmB)(T:OwnTail h bmB bm){mN:Str→Option Value}{Q:PySem.Fin→Shared→Prop}
  (hC:h.get? C=some (excClassObj nm q C N bs bm ay sn sub ab col dd k0 k1 k2 k3 k5 newId)) (hn:h.Ns N mN) (hi:mN "__init__" =none)
  (z:∀h' e,Heap.MadeExcOf h h' e (.ref C) []→h.objs.size≤e→Q (.done (.ret (.ref e))) ⟨h',g,d,t,os⟩):
  wpAny (model prog w) A (Builtin.«type.__call__» ⟨[.ref C], []⟩) Q E ⟨h,g,d,t,os⟩:=by
 wp_walk using wpAny_loadPart_at hC,wpAny_madeBy_exc hC
 refine codeAny_call_builtin_code (Code.quiet_builtin _ FB.quiet) (wpAny_check_new_subT FB T hC ?_);refine codeAny_exc_new_subT FB T hC ?_ (by show 0≤sizeLine;exact Nat.zero_le _);show wpAny _ _ _ _ _ _;generalize e1:({cls:= .type "tuple",data:= .seq ([]:List Value).toArray}:Obj)=o1;generalize e2:({cls:= .ref C,data:= .fields #[.ref h.objs.size, .none, .none, .none, .bool false, .none]}:Obj)=o2;have up:∀b o,h.get? b=some o→((h.push o1).push o2).get? b=some o:=fun b o e=>Heap.get?_push_of_some _ (Heap.get?_push_of_some _ e);have ge:((h.push o1).push o2).get? (h.objs.size + 1)=some o2:=by
  have:=Heap.get?_push_size (h.push o1) (o:=o2) (by rw [←e2];rfl)
  rwa [Heap.size_push] at this
 have hC1:=up _ _ hC;have hn1:((h.push o1).push o2).Ns N mN:=hn.keeps up;have T1:=T.keeps up;have cl:o2.cls= .ref C:=by rw [←e2]
 have hcC:List.contains (Value.ref C::bm) (.ref C)=true:=List.contains_iff_mem.mpr (.head _);unfold isInstance
 repeat (first|(with_reducible refine wpAny_loadPart_at ge ?_;rw [cl])|(with_reducible refine wpAny_isSubtype_exc hC1 ?_;rw [hcC])|wp_step)
 show wpAny _ _ (typeLookup (.ref C) _) _ _ _;refine wpAny_typeLookup_tail hC1 hn1 T1 FB.mroIs FB.init.lookup ?_;rw [hi];refine wpAny_holding (wpAny_bind (wpAny_of_eq (FB.init.bind _) ?_));refine wpAny_bind (wpAny_call (codeAny_call_builtin FB.init.plain FB.initEntry (wpAny_check_init_subT FB T1 hC1 ge cl ?_)));subst e1 e2
 wp_walk
 refine z _ (h.objs.size + 1) ⟨fun b o hb=> ?_,Heap.get?_none_of_le (Nat.le_succ _),h.objs.size + 2, ?_,Heap.get?_none_of_le (by omega), ?_⟩ (Nat.le_succ _)
 ·rw [Heap.get?_update_other _ _ (Ne.symm (Nat.ne_of_lt (Nat.lt_succ_of_lt (Heap.lt_size hb))))];exact Heap.get?_push_of_some _ (up b o hb)
 ·rw [Heap.get?_update_self _ (Heap.get?_push_of_some _ ge) rfl,Heap.size_push,Heap.size_push];rfl
 ·rw [Heap.get?_update_other _ _ (Nat.ne_of_lt (Nat.lt_succ_self (h.objs.size + 1)))];exact Heap.get?_push_at (by rw [Heap.size_push,Heap.size_push]) rfl
theorem cf_4(FB:ExcBaseFacts B newId ah bmB)(T:OwnTail h bmB bm){mN:Str→Option Value}{Q:Value→Shared→Prop}
  (hC:h.get? C=some (excClassObj nm q C N bs bm ay sn sub ab col dd k0 k1 k2 k3 k5 newId)) (hn:h.Ns N mN) (hi:mN "__init__" =none)
  (z:∀h' e,Heap.MadeExcOf h h' e (.ref C) []→h.objs.size≤e→Q (.ref e) ⟨h',g,d,t,os⟩):
  wpAny (model prog w) A (call (.ref C) []) Q E ⟨h,g,d,t,os⟩:=by
 have f1:=tc_lookup;have f2:=tc_bind (.ref C);have isT:Shared.TypeIs ⟨h,g,d,t,os⟩ (.ref C) "type" :=⟨_,hC,rfl⟩;refine wpAny_call (codeAny_of_tree (?_:wpAny _ _ (callAny (.ref C) _) _ _ _))
 wp_walk using wpAny_loadPart_at hC
 refine⟨rfl, ?_⟩;exact codeAny_call_builtin_at (Code.quiet_builtin _ (by decide +kernel)) entry_typeCall (wpAny_check_type_call_sub hC (bs_9 FB T hC hn hi z))
end
def XMk0(K:Frag)(C:Addr):Prop:=∃(nm q:Str) (N:Addr) (bs bm:List Value) (sn:List Str) (sub:List Value) (ab:Bool) (col:Option Bool) (dd:Option Addr) (k0 k1 k2 k3 k5:Option Value) (mN:Str→Option Value),
 K.lookup C=some (excClassObj nm q C N bs bm true sn sub ab col dd k0 k1 k2 k3 k5 "ValueError.__new__")∧(∀h:Heap,K.In h→OwnTail h bmVE bm)∧(∀h:Heap,K.In h→h.Ns N mN)∧mN "__init__" =none
theorem cx_9{C N L:Addr}{nm q:Str}{bs:List Value}{sn:List Str}{sub:List Value}{ab:Bool}{col:Option Bool}{dd:Option Addr}{k0 k1 k2 k3 k5:Option Value}{oc c0 oL:Value}{od ddL odL:Option Addr}{es esL:Array DictEntry}{ep epL:Nat}{sl sl0 slL:Array (Option Value)}{cd:ClassData}
  (lc:K.lookup C=some (excClassObj nm q C N bs (.ref L::bmVE) true sn sub ab col dd k0 k1 k2 k3 k5 "ValueError.__new__")) (ln:K.lookup N=some ⟨oc,od, .dict es ep,sl⟩) (kn:m_1 es=true) (hi:nsFind es "__init__" =none)
  (ll:K.lookup L=some ⟨c0,ddL, .cls cd,sl0⟩) (lm:K.lookup cd.ns=some ⟨oL,odL, .dict esL epL,slL⟩) (km:m_1 esL=true) (hL:nsFind esL "__init__" =none):XMk0 K C:=
 ⟨nm,q,N,bs,_,sn,sub,ab,col,dd,k0,k1,k2,k3,k5,nsFind es,lc,fun h X=> .own (X _ _ ll) (by_3 lm km X) hL .base,fun h X=>by_3 ln kn X,hi⟩
structure XC0(K:Frag)(mg:Str→Option Value)(c:Str)(C:Addr):Prop where
 at_:ClsAt K c C
 glob:mg c=some (.ref C)
 kp:keepIn K (.ref C)=true
 made:XMk0 K C
def w_1(c:Str):FS:=fun Δ=> .ex ⟨c, [], []⟩ Δ
section
variable{X:Cx}{C:Addr}{c:Str}
theorem ay_4{EX:EXS}{np zf pos:Pos}(M:XC0 X.K X.mg c C)(hr:RoomC true 2 X.A)(l1:Lk1 X EX)(hg:Gl X c:=by rfl)(hdb:(c ==("__debug__" :Str))=false:=by decide):
  SD X EX (.Raise (some (.Call (.Name c np) [] [] zf)) none pos) (w_1 c):=by
 intro zd s σ H D I q;obtain⟨H0,G0,G,Δ,O,E,q⟩:=q;obtain⟨nm,qn,N,bs,bm,sn,sub,ab,col,dd,k0,k1,k2,k3,k5,mN,lc,tl,hn,hi⟩:=M.made;have hB:bm.contains (.type "BaseException")=true:=ai_8 (tl s.heap I.kIn);rw [arm_exec_Raise];have mk:wpAny (model X.prog X.w) X.A (eval (.Call (.Name c np) [] [] zf) X.env) (fun v s1=>∃a t dx,v= .ref a∧s1.heap.get? C=some (excClassObj nm qn C N bs bm true sn sub ab col dd k0 k1 k2 k3 k5 "ValueError.__new__")∧
   s1.heap.get? a=some {cls:= .ref C,dict:=dx,data:= .fields #[.ref t, .none, .none, .none, .bool false, .none]}∧X.xe (.ref a) s1) X.xe s:=by
  refine wpAny_Call_Name_kw (q_8 I hg M.glob ?_ hdb);refine callWith_K0 I.kIn M.kp ?_;have KX:=I.kIn;obtain⟨hh,gg,dr,tk,os⟩:=s;refine cf_4 PySem.F.excBase_ValueError (tl hh KX) (KX _ _ lc) (hn hh KX) hi fun h' a me za=> ?_;obtain⟨kk,new,t,et,_,_⟩:=me;have I2:Inv X zd σ H ⟨h',gg,dr,tk,os⟩:=I.kept (h':=h') (t':=tk) kk;refine⟨a,t,none,rfl,I2.kIn _ _ lc,et, ?_⟩;exact l1 zd σ H H ⟨hh,gg,dr,tk,os⟩ ⟨h',gg,dr,tk,os⟩ a C none _ _ I I2 et rfl rfl rfl rfl rfl (I.hok.fresh za) za ⟨⟨c, [], []⟩,G,E.st.gh, .bare M.at_,q σ G H O E (Same.refl _)⟩
 refine wpAny_bind (wpAny_standAt (ax_1 hB (hr.hd rfl) (wpAny_bind (wpAny_mono mk (fun v s3 h3=>wpAny_bind (wpAny_standAt (wpAny_pure h3))) fun _ _ x=>x))))
end
end L3
namespace L3
open PySem L2
variable{K:Frag}{fd:FuncData}{mg:Str→Option Value}{us:List Value}{base:Heap}{H:Hp}{X:Cx}{pos:Pos}{v:V}
abbrev Ai{a b:Prop}(x:a)(y:b):a∧b:=⟨x,y⟩
def evs:=Ai @bodyD.eq_1 (Ai @start3.eq_1 (Ai @sSeq.eq_1 (Ai @sSet.eq_1 (Ai @gsome.eq_1 (Ai @give1.eq_1 (Ai @List.foldl_cons.{0,0} (Ai @List.foldl_nil.{0,0} (Ai @sRet.eq_1 (Ai @sRetV.eq_1 (Ai @sIf.eq_1 (Ai @sExpr.eq_1 (Ai @sNil.eq_1 (Ai @vsh.eq_1 (Ai @vall.eq_1 (Ai @gall.eq_1 (Ai @dh_9 (Ai @di_0 (Ai @di_1 (Ai @di_2 (Ai @di_3 (Ai @di_4 (Ai @cx_2 (Ai @cx_3 (Ai @cx_4 (Ai @eOp.eq_1 (Ai @eVar.eq_1 (Ai @eC.eq_1 (Ai @eTest.eq_1 (Ai @eTruth.eq_1 (Ai @truthD.eq_1 (Ai @truthD.eq_2 (Ai @truthD.eq_3 (Ai @truthD.eq_4 (Ai @truthD.eq_5 (Ai @truthD.eq_6 (Ai @truthD.eq_7 (Ai @boolD.eq_1 (Ai @boolD.eq_2 (Ai @eCall.eq_1 (Ai @eFn.eq_1 (Ai @R.calm_ok (Ai @R.calm_no (Ai @R.calm_ex (Ai @sPut.eq_1 (Ai @sPut.eq_2 (Ai @sPut.eq_3 (Ai @sPut.eq_4 (Ai @sPut.eq_5 (Ai @eAttr.eq_1 (Ai @eIsC.eq_1 (Ai @isND.eq_1 (Ai @isND.eq_2 (Ai @nonB.eq_1 (Ai @nonB.eq_2 (Ai @aNil.eq_1 (Ai @aCons.eq_1 (Ai @eTup.eq_1 (Ai @eLst.eq_1 (Ai @eIf.eq_1 (Ai @eAnd.eq_1 (Ai @eOr.eq_1 (Ai @eNot.eq_1 (Ai @tAndF.eq_1 (Ai @tOrF.eq_1 (Ai @tNotF.eq_1 (Ai @eIs.eq_1 (Ai @bj_5 (Ai @bs_5 (Ai @bj_6 (Ai @bj_7 (Ai @bj_8 (Ai @bj_9 (Ai @bd_5 (Ai @bk_0 (Ai @bd_6 (Ai @bd_7 (Ai @bd_8 (Ai @bd_9 (Ai @bk_1 (Ai @bs_6 (Ai @bk_2 (Ai @bk_3 (Ai @bk_4 (Ai @bk_5 (Ai @be_0 (Ai @bk_6 (Ai @be_1 (Ai @be_2 (Ai @be_3 (Ai @be_4 (Ai @av_0 (Ai @be_5 (Ai @av_1 (Ai @av_2 (Ai @av_3 (Ai @av_4 (Ai @eSlice.eq_1 (Ai @oNone.eq_1 (Ai @oSome.eq_1 (Ai @intPart.eq_1 (Ai @intPart.eq_2 (Ai @eMeth.eq_1 (Ai @eMeth0.eq_1 (Ai @tyD.eq_1 (Ai @tyD.eq_2 (Ai @tyD.eq_3 (Ai @tyD.eq_4 (Ai @iArgs.eq_1 (Ai @iOf.eq_1 (Ai @itemsD.eq_1 (Ai @itemsD.eq_2 (Ai @itemsD.eq_3 (Ai @itemsD.eq_4 (Ai @R.bind_ok (Ai @R.bind_no (Ai @R.bind_ex (Ai @W.d_sh (Ai @W.d_ow (Ai @List.map_cons.{0,0} (Ai @List.map_nil.{0,0} (Ai @List.cons_append.{0} (Ai @List.nil_append.{0} (Ai @List.append_nil.{0} (Ai @List.replicate_succ.{0} (Ai @List.replicate_zero.{0} (Ai @List.length_cons.{0} (Ai @List.length_nil.{0} (Ai @List.set_cons_zero.{0} (Ai @List.set_cons_succ.{0} (Ai @List.getElem?_cons_zero.{0} (Ai @List.getElem?_cons_succ.{0} (Ai @if_true.{1} (Ai @if_false.{1} (Ai @flatD.eq_1 (Ai @flatD.eq_2 (Ai @flatD.eq_3 (Ai @flatD.eq_4 (Ai @flatD.eq_5 (Ai @Bool.false_eq_true (Ai @Bool.not_true (Ai @Bool.not_false (Ai @Bool.true_and (Ai @Bool.false_and (Ai @Nat.zero_add (Ai @decide_true (Ai @decide_false (Ai @gC.eq_1 (@gV.eq_1))))))))))))))))))))))))))))))))))))))))))))))))))))))))))))))))))))))))))))))))))))))))))))))))))))))))))))))))))))))))))))))))))))))))))))))))))))
end L3
namespace L3
open PySem PySem.Spec PyProof.Rows L2
variable{K:Frag}{fd:FuncData}{mg:Str→Option Value}{us:List Value}{base:Heap}{H:Hp}{X:Cx}{pos:Pos}{v:V}
abbrev HBd(c:Bool)(P:Program)(w:World)(K:Frag)(mg:Str→Option Value)(base:Heap)(N:List Str)(qual:Str)(st:Stmt)(f:Addr)(k:Nat)(g:FS):Prop:=∀{zp:Value} {A:Around} {outer:List Env} {s:Shared} {H:Hp} {E:XK},(cxN c P w K mg base N qual (b_5 st) f zp A outer s H E).calm=c→RoomC c k (Cx.A (cxN c P w K mg base N qual (b_5 st) f zp A outer s H E))→(Cx.A (cxN c P w K mg base N qual (b_5 st) f zp A outer s H E)).units + 64 < cLine→N.Nodup→Lk (cxN c P w K mg base N qual (b_5 st) f zp A outer s H E) (fun _=>EXof K E)→
   BD (cxN c P w K mg base N qual (b_5 st) f zp A outer s H E) (fun _=>EXof K E) (f_4 st) g
theorem h_5{c:Bool}{P:Program}{w:World}{x qual:Str}{st:Stmt}{f:Addr}{N ps:List Str}{k:Nat}{g:FS}(F:Fun K x qual st f fd)
  (zj:HBd c P w K mg base N qual st f k g) (S:FnScope N ps (b_5 st):=by exact⟨rfl,rfl,rfl,by decide +kernel,rfl,by decide +kernel,by decide +kernel⟩):FnX P w K mg base c (k + 1) f fd ps (spX K ps.length (bodyD N.length g)):=
 fn_D F S fun zp A outer s H E hr=>zj rfl hr (RoomC.units hr) S.nd br_3
def FnAt(K:Frag)(x qual:Str)(st:Stmt)(f:Addr):Prop:=∃fd,Fun K x qual st f fd
theorem FnAt.mk{x qual:Str}{st:Stmt}{f:Addr}{oc kV dc pm cd ct:Value}{od an:Option Addr}{sl:Array (Option Value)}
  (l:K.lookup f=some ⟨oc,od, .func (fnOf x qual (j_8 st) (f_4 st) (b_5 st) .none kV dc pm an cd ct),sl⟩) (c:codeIn K cd qual=true) (k:keepIn K (.ref f)=true):FnAt K x qual st f:=⟨_,bq_5 l c k⟩
def FnTop(K:Frag)(x:Str)(st:Stmt):Prop:=∃f,nsIn K mainGlobals x=some (some (.ref f))∧FnAt K x x st f
theorem FnTop.mk{x:Str}{st:Stmt}{f:Addr}{oc kV dc pm cd ct:Value}{od an:Option Addr}{sl:Array (Option Value)}(a:nsIn K mainGlobals x=some (some (.ref f)))
  (l:K.lookup f=some ⟨oc,od, .func (fnOf x x (j_8 st) (f_4 st) (b_5 st) .none kV dc pm an cd ct),sl⟩) (c:codeIn K cd x=true) (k:keepIn K (.ref f)=true):FnTop K x st:=⟨f,a,FnAt.mk l c k⟩
def FnMet(K:Frag)(C:Addr)(x qual:Str)(st:Stmt):Prop:=∃f,findIn K (.ref C) x=some (some (.ref f))∧FnAt K x qual st f∧keepIn K (.ref f)=true∧isFn K (.ref f)=true
theorem FnMet.mk{C:Addr}{x qual:Str}{st:Stmt}{f:Addr}{oc kV dc pm cd ct:Value}{od an:Option Addr}{sl:Array (Option Value)}(a:findIn K (.ref C) x=some (some (.ref f)))
  (l:K.lookup f=some ⟨oc,od, .func (fnOf x qual (j_8 st) (f_4 st) (b_5 st) .none kV dc pm an cd ct),sl⟩) (c:codeIn K cd qual=true) (k:keepIn K (.ref f)=true) (i:isFn K (.ref f)=true):FnMet K C x qual st:=⟨f,a,FnAt.mk l c k,k,i⟩
section
variable{X:Cx}{EX:EXS}{pos:Pos}
end
section
variable{X:Cx}{EX:EXS}{pos:Pos}
end
section
variable{X:Cx}{EX:EXS}
end
end L3
namespace PySem
namespace SetTable
structure Cut(xs:Array Nat)(j k:Nat):Prop where
 le:k≤xs.size
 lo:∀i x,i < k→xs[i]? =some x→x < j
 hi:∀i x,k≤i→xs[i]? =some x→j≤x
end SetTable
end PySem
namespace PySem
def vInt:Value→Int
 | .int i _=>i
 |_=>0
section
variable{prog:Program}{w:World}{A:Around}{E:Value→Shared→Prop}{s:Shared}{led:Bool}{ns:List Int}{a:Addr}
end
end PySem
namespace PySem
open AutoSeq1 (wpAny_loadPart')
namespace F
end F
section
variable{prog:Program}{w:World}{A:Around}{E:Value→Shared→Prop}{s:Shared}
def Heap.SetIt(h:Heap)(I S:Addr)(f:Value)(i n ep:Nat):Prop:=∃o,h.get? I=some o∧o.cls= .type "set_iterator" ∧o.data= .fields #[f,rawInt i, .ref S,rawInt n,rawInt ep]
theorem Heap.SetIt.ty{I S:Addr}{f:Value}{i n ep:Nat}(x:s.heap.SetIt I S f i n ep):s.TypeIs (.ref I) "set_iterator" :=x.elim fun o z=>⟨o,z.1,z.2.1⟩
end
end PySem
namespace PySem
open AutoSeq1 (wpAny_loadPart')
section
variable{prog:Program}{w:World}{A:Around}{R:Result→Shared→Prop}{I S:Addr}{fp wr:List Addr}{G:Array GenState→Array GenState→Prop}{n:Nat}{P:Nat→Value→Prop}{St:Nat→Shared→Prop}{led:Bool}
end
section
variable{prog:Program}{w:World}{A:Around}{E:Value→Shared→Prop}{s:Shared}
end
end PySem
namespace PySem
open AutoSeq1 (wpAny_loadPart')
section
variable{prog:Program}{w:World}{A:Around}{E:Value→Shared→Prop}{s:Shared}
end
end PySem
namespace PySem
open AutoSeq1 (wpAny_loadPart')
namespace SetTable
end SetTable
section
variable{prog:Program}{w:World}{A:Around}
end
section
variable{prog:Program}{w:World}{A A':Around}{E:Value→Shared→Prop}{s:Shared}
structure SetWalk(prog:Program)(w:World)(A':Around)(h:Heap)(I S:Addr)(old:Nat)(ns:List Int):Prop where
 ex:∃(fp:List Addr) (n:Nat) (vals:Array Value) (St:Nat→Heap→Prop),Walks prog w A' I fp [I] n (fun i v=>vals[i]? =some v) St∧St 0 h∧(∀b∈fp,b < h.objs.size∧(b=S∨old≤b))∧n=vals.size∧(vals.toList.map vInt).Perm ns∧∀v∈vals.toList,∃i t,v= .int i t
 new:old≤I
end
end PySem
namespace PySem
open AutoSeq1 (wpAny_loadPart')
open PyProof.Rows (IntsAre seqObj sortedHeap)
section
variable{prog:Program}{w:World}{A:Around}{E:Value→Shared→Prop}{s:Shared}
end
end PySem
namespace L3
open PySem PySem.Spec PyProof.Rows L2
variable{K:Frag}{fd:FuncData}{mg:Str→Option Value}{us:List Value}{base:Heap}{H:Hp}{X:Cx}{pos:Pos}{v:V}
section
variable{X:Cx}{EX:EXS}{a:Expr}{f:FE}{p p' pos pos':Pos}
end
theorem Inv.retag{zd:List (Addr×Obj)}{σ:Sg}{s:Shared}(I:Inv X zd σ H s){a:Addr}{u u':HO}(hu:H a=some u)(n1:∀xs,u≠ .tup xs)(n2:∀x,u≠ .own x)(n3:∀ps,u≠ .tbl ps)(nf:∀o v,X.H₀ a≠some (.frz o v))(new:ObjOk X.prog X.w (upd H a u') s.heap a u'):Inv X zd σ (upd H a u') s:=by
 have off:∀b,H b=none→upd H a u' b=none:=fun b z=>by
  rw [a_5 (fun q=>by rw [q,hu] at z;cases z)];exact z
 refine⟨I.ok,I.os,I.bare,⟨I.base.keep,I.base.slot,fun b o e n hx=>off b (I.base.free b o e n hx),I.base.there,fun b xs e=> ?_,fun b o v e=> ?_,fun b ps e=> ?_⟩,I.loc,I.cell,off _ I.free,fun x c e=>off c (I.freeC x c e),fun p hp=> ?_,fun b o e=> ?_,I.len⟩
 ·have z:=I.base.tups b xs e;rw [a_5 (fun q=>by rw [q,hu] at z;cases z;exact n1 _ rfl)];exact z
 ·have z:=I.base.frzs b o v e;rw [a_5 (fun q=>by subst q;exact nf _ _ e)];exact z
 ·obtain⟨more,z⟩:=I.base.tbls b ps e;exact⟨more,by rw [a_5 (fun q=>by rw [q,hu] at z;cases z;exact n3 _ rfl)];exact z⟩
 ·obtain⟨z1,z2,z3⟩:=I.pin p hp;exact⟨z1,off _ z2,z3⟩
 ·by_cases hb:b=a
  ·subst hb;rw [a_9] at e;cases e;exact new
  ·rw [a_5 hb] at e;refine(I.hok b o e).stay (fun _ _ _ q=>q) (fun c z=> ?_) fun c xs z=> ?_
   ·rw [a_5 (fun q=>by rw [q,hu] at z;cases z;exact n2 _ rfl)];exact z
   ·rw [a_5 (fun q=>by rw [q,hu] at z;cases z;exact n1 _ rfl)];exact z
section
variable{K:Frag}{G:Hp}{a:Addr}{u u':HO}
def isDk(kvs:List (Key×V))(u:HO):Prop:=u= .dK kvs∨∃o,u= .frz o (.dK kvs)
theorem isDk.rd{kvs:List (Key×V)}(h:isDk kvs u)(e:G a=some u):Rd G a (.dK kvs):=by
 rcases h with rfl|⟨o,rfl⟩
 ·exact .inl e
 ·exact .inr ⟨o,e⟩
theorem isDk.noL{kvs:List (Key×V)}(h:isDk kvs u)(e:G a=some u){xs:List V}:¬Rd G a (.lst xs)∧¬Rd G a (.tup xs):=by
 rcases h with rfl|⟨o,rfl⟩
 ·exact⟨fun r=>by rcases r with r|⟨o,r⟩ <;> (rw [e] at r;cases r),fun r=>by rcases r with r|⟨o,r⟩ <;> (rw [e] at r;cases r)⟩
 ·exact⟨fun r=>by rcases r with r|⟨o,r⟩ <;> (rw [e] at r;cases r),fun r=>by rcases r with r|⟨o,r⟩ <;> (rw [e] at r;cases r)⟩
theorem isDk.one{kvs bf:List (Key×V)}(h:isDk kvs u)(e:G a=some u)(r:Rd G a (.dK bf)):bf=kvs:=by
 rcases h with rfl|⟨o,rfl⟩ <;> rcases r with r|⟨o,r⟩ <;> (rw [e] at r;cases r;try rfl)
theorem isDk.noX{kvs:List (Key×V)}(h:isDk kvs u)(e:G a=some u):(∀φ,G a≠some (.ext φ))∧(∀fs,G a≠some (.xd fs))∧∀C dx fs,G a≠some (.ins C dx fs):=by
 rcases h with rfl|⟨o,rfl⟩ <;> exact⟨fun _ z=>(by rw [e] at z;cases z),fun _ z=>(by rw [e] at z;cases z),fun _ _ _ z=>(by rw [e] at z;cases z)⟩
theorem isDk.noF{kvs:List (Key×V)}(h:isDk kvs u)(e:G a=some u)(o:Obj)(x C:Addr)(dx:Option Addr):G a≠some (.frz o (XO x C dx)):=by
 rcases h with rfl|⟨o,rfl⟩ <;> exact fun z=>(by rw [e] at z;cases z)
theorem cn_5{b:Addr}{v:HO}(h:b≠a)(r:Rd G b v):Rd (upd G a u') b v:=by
 rcases r with r|⟨o,r⟩
 ·exact .inl (by rw [a_5 h];exact r)
 ·exact .inr ⟨o,by rw [a_5 h];exact r⟩
mutual
theorem Has.tag{kvs:List (Key×V)}(ha:G a=some u)(hd:isDk kvs u)(hd':isDk kvs u'):∀{v:V} {d:D},Has K G v d→Has K (upd G a u') v d
 |_,_, .non=> .non
 |_,_, .bl b=> .bl b
 |_,_, .int i=> .int i
 |_,_, .str x=> .str x
 |_,_, .lst (a:=b) h r=>by
  refine .lst ?_ (HasL.tag ha hd hd' r);rcases h with h|h
  ·exact .inl (cn_5 (fun z=>(hd.noL ha).1 (by rw [←z];exact h)) h)
  ·exact .inr h
 |_,_, .tup (a:=b) h r=>by
  refine .tup ?_ (HasL.tag ha hd hd' r);rcases h with h|h
  ·exact .inl (cn_5 (fun z=>(hd.noL ha).2 (by rw [←z];exact h)) h)
  ·exact .inr h
 |_,_, .exn0 (a:=b) hc h=> .exn0 hc (by rw [a_5 (fun z=>hd.noF ha _ _ _ _ (by rw [←z];exact h))];exact h)
 |_,_, .exn1 (a:=b) (d:=e) hc h hx hl r=> .exn1 hc (by rw [a_5 (fun z=>hd.noF ha _ _ _ _ (by rw [←z];exact h))];exact h) (by rw [a_5 (fun z=>(hd.noX ha).2.1 _ (by rw [←z];exact hx))];exact hx) hl (HasL.tag ha hd hd' r)
 |_,_, .dic (a:=b) h hk r=>by
  have r':=HasL.tag ha hd hd' r
  by_cases hb:b=a
  ·refine .dic ?_ hk r';have e:=hd.one ha (by rw [←hb];exact h);rw [e,hb];exact hd'.rd a_9
  ·exact .dic (cn_5 hb h) hk r'
 |_,_, .obj (a:=b) hc h hl r=> .obj hc (by rw [a_5 (fun z=>(hd.noX ha).2.2 _ _ _ (by rw [←z];exact h))];exact h) hl (HasL.tag ha hd hd' r)
theorem HasL.tag{kvs:List (Key×V)}(ha:G a=some u)(hd:isDk kvs u)(hd':isDk kvs u'):∀{vs:List V} {ds:List D},HasL K G vs ds→HasL K (upd G a u') vs ds
 |_,_, .nil=> .nil
 |_,_, .cons h r=> .cons (Has.tag ha hd hd' h) (HasL.tag ha hd hd' r)
end
end
def Itk(a:Addr)(ob:Obj)(kvs:List (Key×V)):It:=⟨fun i H=>H a=some (.frz ob (.dK kvs))∧i < kvs.length,fun i H x H'=>H'=H∧∃p,kvs[i]? =some p∧x=kV p.1,fun i H=>H a=some (.frz ob (.dK kvs))∧i=kvs.length⟩
theorem bl_5{P:Program}{w:World}{h:Heap}{a:Addr}{ob:Obj}{kvs:List (Key×V)}(ok:HOk P w H h)(e:H a=some (.frz ob (.dK kvs))){es:Array DictEntry}{ep:Nat}(hd:ob.data= .dict es ep):∃ws,KV kvs ws∧h.DictAt (e_1 P w) a ws ep:=by
 obtain⟨g,_,_,ws,kv,o,es',ep',g',c1,c2,c3⟩:=(show ObjOk P w H h a (.frz ob (.dK kvs)) from ok a _ e);rw [g] at g';cases g';rw [hd] at c2;cases c2;exact⟨ws,kv,ob,_,g,c1,hd,c3⟩
theorem KV.get{kvs:List (Key×V)}{ws:List (Key×Value)}(r:KV kvs ws){i:Nat}{p:Key×V}(e:kvs[i]? =some p):∃x,ws[i]? =some (p.1,x):=by
 have hl:=r.length;have hk:=r.keys;have hi:i < kvs.length:=(List.getElem?_eq_some_iff.mp e).1;obtain⟨q,hq⟩:∃q,ws[i]? =some q:=⟨_,List.getElem?_eq_getElem (show i < ws.length by omega)⟩;have e1:(kvs.map (·.1))[i]? =some p.1:=by rw [List.getElem?_map,e];rfl
 have e2:(ws.map (·.1))[i]? =some q.1:=by rw [List.getElem?_map,hq];rfl
 rw [hk,e2] at e1;have e3:q.1=p.1:=Option.some.inj e1;exact⟨q.2,by rw [hq,←e3]⟩
theorem ay_5{P:Program}{w:World}{tg:Expr}(a it:Addr)(ob:Obj)(kvs:List (Key×V)){es:Array DictEntry}{ep:Nat}(hd:ob.data= .dict es ep):Turn P w K tg (Itk a ob kvs) [it] it (fun i h=>h.IsKeyIter it a i kvs.length ep) where
 mem:=by simp
 obj:=fun i h st b hb=>by
  have e:b=it:=by simpa using hb
  subst e;obtain⟨o,e,c,d⟩:=st;exact⟨o,e,fun v z=>by rw [d] at z;cases z⟩
 keep:=fun i h h' st k=>st.at fun o e=>k it (by simp) o e
 item:=by
  intro X hP hw hK hc i zd s σ H E I hf st hg;subst hP hw hK;obtain⟨hq,hlt⟩:=hg;obtain⟨ws,kv,da⟩:=bl_5 I.hok hq hd;obtain⟨f0,f1,f2,f3,f4,f5⟩:=hf it (by simp);obtain⟨p,hp⟩:∃p,kvs[i]? =some p:=⟨_,List.getElem?_eq_getElem hlt⟩;obtain⟨x,hx⟩:=KV.get kv hp;rw [kv.length] at st;refine wpAny_pyNext_dict_item st da hx fun key h' hk st' sb=> ?_;rw [←kv.length] at st';have I1:Inv X zd σ H {s with heap:=h'}:=I.turned (t':=s.toks) (fun b o hb e=>(sb.2 b hb).trans e) f0 f1 f3 f4 f5;obtain⟨o,e,c,d⟩:=id st';exact⟨key,rfl,bg_9 (s:={s with heap:=h'}) e c d (by decide) ⟨kV p.1,H,I1,dc_1 hk,⟨rfl,p,hp,rfl⟩,st',fun b hb=>(hf b hb).1⟩⟩
 done:=by
  intro X hP hw hK hc i zd s σ H E I hf st hg;subst hP hw hK;obtain⟨hq,hg⟩:=hg;subst hg;obtain⟨ws,kv,da⟩:=bl_5 I.hok hq hd;obtain⟨f0,f1,f2,f3,f4,f5⟩:=hf it (by simp);rw [kv.length] at st;exact wpAny_pyNext_dict_end (I.ok.hd hc) st da (by simp) fun h' eb=>⟨rfl,I.turned (t':=s.toks) (fun b o hb e=>eb b o hb e) f0 f1 f3 f4 f5⟩
 self:=fun _ _ _ _ _ st h=>wpAny_pyIter_keyiter st h
def do_5:D→R (List D)
 | .dic kds=> .ok (kds.map fun p=>kD p.1)
 |_=> .no
def y_7(f:FE):FI:=fun δ=>(f δ).bind fun w=>do_5 w.d
section
variable{X:Cx}{EX:EXS}{pos:Pos}
theorem cf_5{elt iter tg:Expr}{ifs:List Expr}{scope:Scope}{N':List Str}{f0:FE}{fg:FGc}{p:FT}{f:FE}{m:Nat}(hx0:∀e s,¬X.xe e s)(hc:X.calm=true)(hi:ED X h_7 iter f0)(hk:scope.kind= .function)(hb:y_1 scope.names X.env.scope.names X.N N'=true)
  (hm:N'.length=X.N.length + m)
  (hin:∀C s0 H0 fp pn,GC (e_0 X scope (i_2 X.env.cells scope.names []) N' C s0 H0 fp pn) h_7 tg fg∧CTs (e_0 X scope (i_2 X.env.cells scope.names []) N' C s0 H0 fp pn) h_7 ifs p∧ED (e_0 X scope (i_2 X.env.cells scope.names []) N' C s0 H0 fp pn) h_7 elt f)
  (hs:∀x,foldedSetIterable iter X.env x=pure x:=by intro _;rfl):ED X h_7 (.ListComp elt [⟨tg,iter,ifs,0⟩] scope pos) (g_3 m (y_7 f0) fg p f):=by
 intro zd s σ H Q I q;obtain⟨G,δ,g0,h0,o⟩:=q;rw [eval_ListComp];have n:=af_9 I.ok hk hb
 
 obtain⟨w,kds,ew,ed⟩:∃w kds,f0 δ= .ok w∧w.d= .dic kds:=by
  unfold g_3 y_7 at o;cases e:f0 δ with
  |ok w=>
   rw [e] at o;simp only [R.bind_ok] at o;cases e2:w.d with
   |dic kds=>exact⟨w,kds,rfl,e2⟩
   |_=>rw [e2] at o;exact False.elim o
  |ex x=>rw [e] at o;exact False.elim o
  |no=>rw [e] at o;exact False.elim o
 have ek:y_7 f0 δ= .ok (kds.map fun p=>kD p.1):=by
  unfold y_7;rw [ew,R.bind_ok,ed];rfl
 let Z:Hp→Hp→Prop:=fun G2 H2=>∃(a:Addr) (ob:Obj) (kvs:List (Key×V)) (G1 H1:Hp),Step G H G1 H1∧((G2=G1∧H2=H1)∨(G1 a=some (.dK kvs)∧(∀o v,X.H₀ a≠some (.frz o v))∧G2=upd G1 a (.frz ob (.dK kvs))∧H2=upd H1 a (.frz ob (.dK kvs))))
 refine wpAny_comprehension_free (use:=none) rfl hs n.clos n.kind n.names (ax_8 (RR:=fun zn C=>compPost (model X.prog X.w) X.A X.xe none (EP X zd σ Q) zn C) hx0 (B:=bi_8) hk hb hm hin I (Z:=Z) (fi:=y_7 f0) (δ:=δ) (fun G2 H2 z=> ?_) (fun _ _ _ _ _ _=>hc) ?_ ?_ fun Da C s1 G2 H2 G' H' vs rs e Io hm' fc z st h1 h2 h3 rl=> ?_)
 ·obtain⟨a,ob,kvs,G1,H1,st,z⟩:=z;rcases z with⟨rfl,rfl⟩|⟨ga,_,rfl,rfl⟩
  ·exact⟨st.gh,h0.mono st.gg⟩
  ·refine⟨ap_1 st.gh _ _,(h0.mono st.gg).len,fun i d e=> ?_⟩;obtain⟨v,e1,r⟩:=(h0.mono st.gg).get i d e;exact⟨v,e1,Has.tag ga (.inl rfl) (.inr ⟨ob,rfl⟩) r⟩
 ·refine thn (hi zd s σ H (fun v H1=>∃G1,Step G H G1 H1∧Has X.K G1 v w.d) I ⟨G,δ,g0,h0,by rw [ew];exact WP.intro fun v G1 H1 st r=>⟨G1,st,r⟩⟩) fun u s1 ⟨v,H1,I1,r1,G1,st,r⟩=> ?_;rw [ed] at r;cases r with
  |dic hh hk' r=>
   rename_i a kvs;cases r1;obtain⟨z,lo,ws,kv,o,es,ep,g1,c1,c2,c3⟩:=t_0 I1.hok (Same.rdD st.gh hh);have da:s1.heap.DictAt (e_1 X.prog X.w) a ws ep:=⟨o,es,g1,c1,c2,c3⟩;refine wpAny_pyIter_dict lo da ?_;have I2:=I1.kept (t':=s1.toks) (h':=s1.heap.push {cls:= .type "dict_keyiterator",data:= .fields #[.ref a, .int 0 0, .int ws.length 0, .int ep 0]}) fun b o e=>Heap.get?_push_of_some _ e;have tn0:(s1.heap.push {cls:= .type "dict_keyiterator",data:= .fields #[.ref a, .int 0 0, .int ws.length 0, .int ep 0]}).IsKeyIter s1.heap.objs.size a 0 kvs.length ep:=⟨_,Heap.get?_push_size _ rfl,rfl,by rw [kv.length];rfl⟩;have zk:(kds.map fun p=>kD p.1).length=kvs.length:=by
    have:=congrArg List.length hk';rw [List.length_map,List.length_map] at this;rw [List.length_map];exact this.symm
   have itd:∀G2:Hp,G2 a=some (.frz o (.dK kvs))→ItD X.K G2 (Itk a o kvs) (kds.map fun p=>kD p.1):=fun G2 ga G' H' s1' s2' i=>by
    have gH:H' a=some (.frz o (.dK kvs)):=s2' _ _ (s1' _ _ ga);refine⟨fun d e=>⟨⟨gH, ?_⟩,fun x H'' y=> ?_⟩,fun e=>⟨gH,by omega⟩⟩
    ·have:=(List.getElem?_eq_some_iff.mp e).1;omega
    ·obtain⟨rfl,q,hq,rfl⟩:=y;refine⟨G',Step.refl s2', ?_⟩;rw [List.getElem?_map] at e;obtain⟨q',hq',rfl⟩:=Option.map_eq_some_iff.mp e;have e1:(kvs.map (·.1))[i]? =some q.1:=by rw [List.getElem?_map,hq];rfl
     have e2:(kds.map (·.1))[i]? =some q'.1:=by rw [List.getElem?_map,hq'];rfl
     rw [hk',e2] at e1;have e3:q'.1=q.1:=Option.some.inj e1;rw [e3];exact bd_0 _
   have fr:∀H2:Hp,H2 s1.heap.objs.size=none→∀b∈ [s1.heap.objs.size],x_6 X zd H2 b:=fun H2 hn b hb=>by
    have e:b=s1.heap.objs.size:=by simpa using hb
    subst e;exact I1.fpOk (Nat.le_refl _) hn
   have free:=I1.hok.fresh (Nat.le_refl s1.heap.objs.size);rcases hh with hh|⟨o',hh⟩
   ·have hH:=st.gh _ _ hh;have nf:∀o v,X.H₀ a≠some (.frz o v):=fun o v e=>by
     have:=I1.base.frzs a o v e;rw [hH] at this;cases this
    have ok:ObjOk X.prog X.w (upd H1 a (.frz o (.dK kvs))) (s1.heap.push {cls:= .type "dict_keyiterator",data:= .fields #[.ref a, .int 0 0, .int ws.length 0, .int ep 0]}) a (.frz o (.dK kvs)):=⟨Heap.get?_push_of_some _ g1,z,lo,ws,kv,o,es,ep,Heap.get?_push_of_some _ g1,c1,c2,c3⟩;have I3:=Inv.retag I2 hH (fun _ z=>by cases z) (fun _ z=>by cases z) (fun _ z=>by cases z) nf ok;refine⟨_,_,_,Itk a o kvs,_,_,upd G1 a (.frz o (.dK kvs)),rfl,I3,Turn.z (ay_5 a _ o kvs c2),tn0,fr _ ?_,ek,⟨a,o,kvs,G1,H1,st, .inr ⟨hh,nf,rfl,rfl⟩⟩,itd _ a_9⟩;rw [a_5 (fun z=>by rw [z,hH] at free;cases free)];exact free
   ·have hH:=st.gh _ _ hh;obtain⟨g2,_⟩:=(show ObjOk X.prog X.w H1 s1.heap a (.frz o' (.dK kvs)) from I1.hok a _ hH);rw [g1] at g2;cases g2;exact⟨_,_,_,Itk a o kvs,H1,_,G1,rfl,I2,Turn.z (ay_5 a _ o kvs c2),tn0,fr _ free,ek,⟨a,o,kvs,G1,H1,st, .inl ⟨rfl,rfl⟩⟩,itd _ hh⟩
 ·cases e:g_3 m (y_7 f0) fg p f δ with
  |ok w=>trivial
  |ex x=>rw [e] at o;exact o
  |no=>rw [e] at o;exact o
 ·rw [e] at o;obtain⟨mm,hnm⟩:=hm';obtain⟨c0,c1,c2,c3,c4,c5⟩:=fc;obtain⟨a,ob,kvs,G1,H1,st1,z⟩:=z;rcases z with⟨rfl,rfl⟩|⟨ga,nf,rfl,rfl⟩
  ·exact⟨mm,hnm,fun h' sb=>⟨.ref Da,H',Io.turned (t':=s1.toks) (fun b ob hb e=>(sb.2 b hb).trans e) c0 c1 c3 c4 c5,rfl,o (.ref Da) (fun b=>b=Da) G' H' (st1.trans st) (fun a e=>by subst e;exact⟨st1.hh.free h1,h3,by rw [h2];simp⟩) (.list h2 rfl rl)⟩⟩
  ·have gF:G' a=some (.frz ob (.dK kvs)):=st.gg _ _ a_9;have hF:H' a=some (.frz ob (.dK kvs)):=st.hh _ _ a_9;have hH1:H1 a=some (.dK kvs):=st1.gh _ _ ga;have nDa:Da≠a:=fun z=>by rw [z,a_9] at h1;cases h1
   have nC:C≠a:=fun z=>by rw [z,hF] at c0;cases c0
   obtain⟨_,okd⟩:=(show ObjOk X.prog X.w H' s1.heap a (.frz ob (.dK kvs)) from Io.hok a _ hF);have I4:Inv X zd σ (upd H' a (.dK kvs)) s1:=Inv.retag Io hF (fun _ z=>by cases z) (fun _ z=>by cases z) (fun _ z=>by cases z) nf okd;have stA:Step G H (upd G' a (.dK kvs)) (upd H' a (.dK kvs)):=by
    refine⟨fun b o z=> ?_,ap_1 st.gh _ _,fun b o z=> ?_,fun b z1 z2=> ?_⟩
    ·have z1:=st1.hh _ _ z
     by_cases hb:b=a
     ·subst hb;rw [hH1] at z1;rw [a_9];exact z1
     ·rw [a_5 hb];exact st.hh _ _ (by rw [a_5 hb];exact z1)
    ·have z1:=st1.gg _ _ z
     by_cases hb:b=a
     ·subst hb;rw [ga] at z1;rw [a_9];exact z1
     ·rw [a_5 hb];exact st.gg _ _ (by rw [a_5 hb];exact z1)
    ·have g1:=st1.nw b z1 z2;have hb:b≠a:=fun q=>by rw [q,ga] at g1;cases g1
     rw [a_5 hb];exact st.nw b (by rw [a_5 hb];exact g1) (by rw [a_5 hb];exact fun q=>z2 (st1.hh.free q))
   have h2':upd H' a (.dK kvs) Da=some (.lst vs):=by rw [a_5 nDa];exact h2
   refine⟨mm,hnm,fun h' sb=>⟨.ref Da,_,I4.turned (t':=s1.toks) (fun b ob hb e=>(sb.2 b hb).trans e) (by rw [a_5 nC];exact c0) c1 c3 c4 c5,rfl,o (.ref Da) (fun b=>b=Da) _ _ stA (fun x e=> ?_) (.list h2' rfl (HasL.tag gF (.inr ⟨ob,rfl⟩) (.inl rfl) rl))⟩⟩;subst e;refine⟨st1.hh.free (by rw [a_5 nDa] at h1;exact h1),by rw [a_5 nDa];exact h3,by rw [h2'];simp⟩
theorem cn_6{elt iter tg:Expr}{ifs:List Expr}{scope:Scope}{N':List Str}{f0:FE}{fg:FGc}{p:FT}{f:FE}{m:Nat}(hc:X.calm=true)(hi:ED X.nox h_7 iter f0)(hk:scope.kind= .function)(hb:y_1 scope.names X.env.scope.names X.N N'=true)
  (hm:N'.length=X.N.length + m)
  (hin:∀C s0 H0 fp pn,GC (e_0 X scope (i_2 X.env.cells scope.names []) N' C s0 H0 fp pn) h_7 tg fg∧CTs (e_0 X scope (i_2 X.env.cells scope.names []) N' C s0 H0 fp pn) h_7 ifs p∧ED (e_0 X scope (i_2 X.env.cells scope.names []) N' C s0 H0 fp pn) h_7 elt f)
  (hs:∀x,foldedSetIterable iter X.env x=pure x:=by intro _;rfl):ED X EX (.ListComp elt [⟨tg,iter,ifs,0⟩] scope pos) (g_3 m (y_7 f0) fg p f):=
 PE.imp (PE.nox (cf_5 (X:=X.nox) (fun _ _ z=>z) hc hi hk hb hm hin hs)) fun σ H Q ⟨G,δ,g0,h0,o⟩=>by
  refine⟨G,δ,g0,h0, ?_⟩;cases e:g_3 m (y_7 f0) fg p f δ with
  |ok w=>rw [e] at o;exact o
  |ex x=>exact(aq_0 e).elim
  |no=>rw [e] at o;exact o
end
theorem gcM{EX:EXS}{i:Nat}{x:Str}(hN:decide X.N.Nodup=true:=by kernel_rfl)(hi:X.N[i]? =some x:=by rfl)(hx:Loc X.env.scope x:=by first|exact Or.inl rfl|exact Or.inr rfl)
  (hf:X.fn x=true∨X.env.scope.names.lookup x=some .local:=by first|exact .inl rfl|exact .inr rfl|assumption):GC X EX (.Name x pos) (gC i):=cv_9 (of_decide_eq_true hN) hi hx hf
structure BaseI(K:Frag)(B f:Addr):Prop where
 sp:specialIn K (.ref B) "__getattribute__" =some (some (.builtin "type.__getattribute__"))
 rd:readsIn K B (.type "type")=true
 at_:findCls K (.ref B) (.type "type") "__init__" =some (.val (.ref f))
 kp:keepIn K (.ref f)=true
section
variable{X:Cx}{EX:EXS}{e:Expr}{es:List Expr}{x:Str}{pp zg pos:Pos}{cc:Bool}{k k' n:Nat}{ps:List Str}
end
theorem Step.wr{G H G' H':Hp}{a:Addr}{o:HO}(s:Step G H G' H')(n:H a=none)(g:G' a=none):Step G H G' (L2.upd H' a o):=
 ⟨fun b u z=>by rw [a_5 (b_9 z n)];exact s.hh b u z,fun b u z=>by rw [a_5 (b_9 z g)];exact s.gh b u z,s.gg,s.nw⟩
structure OInst(K:Frag)(C:Addr):Prop where
 pg:plainGet K C "__class__" =true
 hd:hasDictIn K C=true
 cl:findIn K (.ref C) "__class__" =some (some (.builtin "object.__class__"))
 gs:specialIn K (.builtin "object.__class__") "__get__" =some (some (.builtin "getset_descriptor.__get__"))
 tk:takesIn K (.builtin "object.__class__")=some true
 ob:mroIn K C (.type "object")=some true
section
variable{X:Cx}{EX:EXS}{zd:List (Addr×Obj)}{σ:Sg}{G H:Hp}{s:Shared}
variable{a:Expr}{fo:FE}{tb:List (Str×Bool)}{pp pos:Pos}
end
section
variable{X:Cx}{EX:EXS}{pos:Pos}
def gNs:List Nat→List D→SE→R SE
 | [], [],Δ=> .ok Δ
 |i::is,d::ds,Δ=>gNs is ds (Δ.set i (.sh d))
 |_,_,_=> .no
def by_9(is:List Nat):FG:=fun d Δ=>match d with
 | .tup ds=>gNs is ds Δ
 |_=> .no
theorem bz_0:∀(is:List Nat) (ds:List D) (Δ Δ':SE),gNs is ds Δ= .ok Δ'→ds.length=is.length
 | [], [],_,_,_=>rfl
 |_::is,_::ds,_,_,e=>congrArg Nat.succ (bz_0 is ds _ _ e)
 | [],_::_,_,_,e=>by cases e
 |_::_, [],_,_,e=>by cases e
def tGs(K:Frag)(is:List Nat):TGs:=fun vs σ H Q=>∃H0 G0 G Δ O ds Δ',Ev K H0 G0 G H σ Δ O∧HasL K G vs ds∧gNs is ds Δ= .ok Δ'∧∀σ' G' H' O',Ev K H0 G0 G' H' σ' Δ' O'→Same G G'→Q σ' H'
theorem di_9:PGs X [] (tGs X.K []):=fun zd s σ H vs us Q I r ⟨H0,G0,G,Δ,O,ds,Δ',E,rl,e,q⟩=>bv_6 zd s σ H vs us Q I r (by
 cases rl with
 |nil=>cases e;exact⟨rfl,q σ G H O E (Same.refl _)⟩
 |cons _ _=>cases e)
theorem be_7{i:Nat}{x:Str}{p:Pos}{ts:List Expr}{is:List Nat}(hN:X.N.Nodup)(h2:PGs X ts (tGs X.K is))(hi:X.N[i]? =some x:=by rfl)(hx:Loc X.env.scope x:=by first|exact Or.inl rfl|exact Or.inr rfl)
  (hf:X.fn x=true∨X.env.scope.names.lookup x=some .local:=by first|exact .inl rfl|exact .inr rfl|assumption)
  (hs:(assignEach (.Name x p::ts) X.env).map (·.2)=assign (.Name x p) X.env::(assignEach ts X.env).map (·.2):=by rfl):PGs X (.Name x p::ts) (tGs X.K (i::is)):=
 fun zd s σ H vs us Q I r ⟨H0,G0,G,Δ,O,ds,Δ',E,rl,e,q⟩=>ao_5 (af_0 hN hi hx hf) h2 hs zd s σ H vs us Q I r (by
  cases rl with
  |nil=>cases e
  |cons h rl=>exact⟨_,_,rfl,H0,G0,G,_,O,_,Δ',E.put h,rl,e,q⟩)
theorem HasL.len{G:Hp}:∀{vs:List V} {ds:List D},HasL K G vs ds→vs.length=ds.length
 |_,_, .nil=>rfl
 |_,_, .cons _ r=>congrArg Nat.succ r.len
theorem cy_0{es:List Expr}{is:List Nat}{k:Nat}(hc:X.calm=true)(h:PGs X es (tGs X.K is))(hn:(assignEach es X.env).length=is.length:=by rfl)(hst:(assignEach es X.env).findIdx? (·.1)=none:=by rfl):
  GD X EX (.Tuple es k pos) (by_9 is):=
 PG.imp (ci_4 hc h hn hst) fun v σ H Q ⟨H0,G0,G,Δ,O,d,E,r,q⟩=>by
  cases r with
  | @tup a vs ds h r=>
   simp only [by_9] at q;cases e:gNs is ds Δ with
   |ok Δ'=>
    rw [e] at q;exact⟨_,_,rfl,Same.tupS E.st.gh h,r.len.trans (bz_0 _ _ _ _ e),H0,G0,G,Δ,O,_,Δ',E,r,e,q⟩
   |ex x=>rw [e] at q;exact q.elim
   |no=>rw [e] at q;exact q.elim
  |_=>exact False.elim q
end
section
variable{P:Program}{w:World}{K:Frag}{mg:Str→Option Value}{base:Heap}{cc:Bool}{k n:Nat}{ps:List Str}{st:Stmt}{Fn:List D→R W}
theorem ay_6{m q c:Str}{C:Addr}(xa:ClsAt K c C)(cl:Cls K C)(W:FnMet K C m q st)(ok:∀{f:Addr} {fd:FuncData},Fun K m q st f fd→FnX P w K mg base cc k f fd ps (spX K (n + 1) Fn)∧Binds K fd ps []):MethD P w K mg base cc k n m c Fn:=by
 obtain⟨f,a,⟨fd,F⟩,kp,i⟩:=W;exact⟨⟨C,f,fd,ps,xa,cl,⟨a,i,kp⟩,(ok F).1,(ok F).2⟩⟩
theorem g_9{x:Str}{h:Heap}(X:K.In h)(G:h.Ns mainGlobals mg)(W:FnTop K x st)(ok:∀{f:Addr} {fd:FuncData},Fun K x x st f fd→FnX P w K mg base cc k f fd ps (spX K ps.length Fn)∧Binds K fd ps []):FnD P w K mg base cc x k ps Fn:=by
 obtain⟨f,a,fd,F⟩:=W;exact dg_8 F (mg_of X G a) (ok F).2 (ok F).1
end
section
variable{X:Cx}{zd:List (Addr×Obj)}{σ:Sg}{H:Hp}{s:Shared}{a:Addr}{kvs:List (Key×V)}{k:Key}{u:Value}{A:Around}{E:Value→Shared→Prop}
theorem cn_7{x:V}{r:Value}{Q:Value→Shared→Prop}(I:Inv X zd σ H s)(e:H a=some (.dK kvs))(ry:RelV (kV k) u)(rx:RelV x r)(l:kvs.length < sizeLine)
  (h1:∀v w' s',j_9 kvs k=some v→Inv X zd σ H s'→RelV v w'→Q w' s') (h2:j_9 kvs k=none→∀s',Inv X zd σ (upd H a (.dK (q_3 kvs k x))) s'→Q r s'):
  wpAny (model X.prog X.w) A (call (.builtin "dict.setdefault") [.ref a,u,r]) Q E s:=by
 obtain⟨z,hd,vs,rel,dd⟩:=bw_9 I.hok e;have hl:(q_3 kvs k x).length≤sizeLine:=by have:=s_9 kvs k x;omega
 have hr:=rel.val k;refine call_meetsIn PySem.F.slot_dict_setdefault dd.typeIs PySem.F.entry_dict_setdefault (PySem.F.args_dict_setdefault_3 _ _ _) (PySem.kt_meets_setdefault (e_1 X.prog X.w) a (af_3 ry) hd r) ⟨vs,dd,by rw [←rel.length];exact z,fun w' hw=> ?_,fun hn h' dd' hs=> ?_⟩
 ·cases hv:j_9 kvs k with
  |none=>
   have hn:valueAt vs k=none:=RelO.none_of (by rw [←hv];exact hr);rw [hn] at hw;cases hw
  |some v=>
   obtain⟨w2,hw2,rv⟩:=RelO.some_of (v:=v) (o:=valueAt vs k) (by rw [←hv];exact hr);rw [hw2] at hw;cases hw;exact h1 v w' _ hv (I.tok _) rv
 ·have he:∃q,h'.get? a=some q:=let⟨q,_,_,hq,_⟩:=dd';⟨q,hq⟩;refine h2 ?_ _ (af_4 I (by rw [e];exact True.intro) hs he (bb_8 hl hd (rel.put k rx) dd'));cases hv:j_9 kvs k with
  |none=>rfl
  |some v=>
   obtain⟨w2,hw2,rv⟩:=RelO.some_of (v:=v) (o:=valueAt vs k) (by rw [←hv];exact hr);rw [hw2] at hn;cases hn
end
def do_6(td ty tx:TE):TE:=fun σ H Q=>td σ H fun x H1=>∃a,x= .ref a∧IsD H1 a∧ty σ H1 fun y H2=>tx σ H2 fun z H3=>∃kvs k,H3 a=some (.dK kvs)∧y=kV k∧kvs.length < sizeLine∧
 (∀v,j_9 kvs k=some v→Q v H3)∧(j_9 kvs k=none→Q z (upd H3 a (.dK (q_3 kvs k z))))
section
variable{X:Cx}{EX:EXS}{o e f:Expr}{zg zf pos:Pos}{td ty tx:TE}
theorem cy_1(ho:PE X o td)(he:PE X e ty)(hf:PE X f tx)(m:M2 X o "setdefault" zg e f zf):PE X (.Call (.Attribute o "setdefault" zg) [e,f] [] zf) (do_6 td ty tx):=by
 intro zd s σ H Q I h;refine wpAny_Call_method m.base m.few m.line PySem.F.plainAttrs_dict PySem.F.slot_dict_setdefault PySem.F.type_dict_setdefault (thn (ho zd s σ H _ I h) fun u s1 ⟨x,H1,I1,rx,a,ex,d,q1⟩=> ?_);subst ex;obtain rfl:u=Value.ref a:=rx;obtain⟨t1,t2,_⟩:=bq_9 I1 d;refine⟨t1,t2, ?_⟩;rw [m.trees];refine Calls.callWith_builtin rfl (Calls.evalArgs_plain (Calls.spliced_cons (thn (he zd s1 σ H1 _ I1 q1) fun iv s2 ⟨y,H2,I2,ry,q2⟩=>
  Calls.spliced_cons (thn (hf zd s2 σ H2 _ I2 q2) fun fv s3 ⟨z,H3,I3,rz,kvs,k,ea,ey,l,q3,q4⟩=>Calls.spliced_nil ?_))))
 subst ey;exact cn_7 I3 ea ry rz l (fun v w' s4 hv I4 rv=>⟨v,_,I4,rv,q3 v hv⟩) fun hn s4 I4=>⟨z,_,I4,rz,q4 hn⟩
end
def sdK(zm:List (Key×Tn))(k:Key):List (Key×Tn):=match f_0 zm k with
 |some _=>zm
 |none=>zm ++ [(k, .lst [])]
section
variable{X:Cx}{EX:EXS}{pos:Pos}
theorem bl_6{k:Key}:∀{kvs:List (Key×V)} {zm:List (Key×Tn)},kvs.map (·.1)=zm.map (·.1)→f_0 zm k=none→j_9 kvs k=none
 | [],_,_,_=>rfl
 |_::_, [],e,_=>by simp at e
 |(x,v)::kvs,(y,t)::zm,e,h=>by
  simp only [List.map_cons,List.cons.injEq] at e;obtain⟨e1,e2⟩:=e;subst e1
  by_cases q:x=k
  ·exfalso;unfold f_0 at h;rw [List.find?_cons_of_pos (by simpa using q)] at h;cases h
  ·rw [h_8 q];refine bl_6 e2 ?_;unfold f_0 at h⊢
   rwa [List.find?_cons_of_neg (by simpa using q)] at h
end
section
variable{P:Program}{w:World}{K:Frag}{mg:Str→Option Value}{base:Heap}{cc:Bool}{j k n:Nat}{ps:List Str}{st:Stmt}{Fn:List D→R W}{C:Addr}{m c q f:Str}
def XB(K:Frag)(C:Addr)(q f:Str)(st:Stmt):Prop:=keepIn K (.ref C)=true∧XCls K C∧findIn K (.ref C) f=some none∧∃(fI:Addr) (fd:FuncData) (o:Obj),XMk K C fI∧K.lookup fI=some o∧o.cls= .type "function" ∧Fun K "__init__" q st fI fd
theorem XB.mk{fI N L:Addr}{nm qn:Str}{bs sub:List Value}{sn:List Str}{ab:Bool}{col:Option Bool}{dd od ddL odL odI an:Option Addr}{k0 k1 k2 k3 k5:Option Value}{oc c0 oL kV dc pm cd ct:Value}{es esL:Array DictEntry}{ep epL:Nat}{sl sl0 slL slI:Array (Option Value)}{cdL:ClassData}
  (lc:K.lookup C=some (excClassObj nm qn C N bs (.ref L::bmVE) true sn sub ab col dd k0 k1 k2 k3 k5 "ValueError.__new__")) (ln:K.lookup N=some ⟨oc,od, .dict es ep,sl⟩) (_:findIn K (.ref C) "__init__" =some (some (.ref fI))) (kn:m_1 es=true) (hi:nsFind es "__init__" =some (.ref fI))
  (ll:K.lookup L=some ⟨c0,ddL, .cls cdL,sl0⟩) (lm:K.lookup cdL.ns=some ⟨oL,odL, .dict esL epL,slL⟩) (km:m_1 esL=true) (hL:nsFind esL "__init__" =none) (sa:findIn K (.ref C) "__setattr__" =some (some (.builtin "object.__setattr__"))) (nf:findIn K (.ref C) f=some none) (kp:keepIn K (.ref C)=true)
  (l:K.lookup fI=some ⟨.type "function",odI, .func (fnOf "__init__" q (j_8 st) (f_4 st) (b_5 st) .none kV dc pm an cd ct),slI⟩) (cI:codeIn K cd q=true) (kI:keepIn K (.ref fI)=true):XB K C q f st:=
 ⟨kp,cx_6 lc sa,nf,fI,_,_,di_5 lc ln kn hi ll lm km hL,l,rfl,bq_5 l cI kI⟩
theorem dc_5(xa:ClsAt K c C)(gx:mg c=some (.ref C))(b:XB K C q f st)(ok:∀{fI:Addr} {fd:FuncData},Fun K "__init__" q st fI fd→XCls K C→findIn K (.ref C) f=some none→FnX P w K mg base false 1 fI fd ps (ai_7 C f)∧Binds K fd ps []):XC P w K mg base c f C:=by
 obtain⟨kp,xc,nf,fI,fd,o,mk,l,e,F⟩:=b;exact⟨xa,gx,kp,xc,fI,fd,ps,o,mk,l,e,(ok F xc nf).1,(ok F xc nf).2⟩
theorem XB0{N L:Addr}{nm qn:Str}{bs sub:List Value}{sn:List Str}{ab:Bool}{col:Option Bool}{dd od ddL odL:Option Addr}{k0 k1 k2 k3 k5:Option Value}{oc c0 oL:Value}{es esL:Array DictEntry}{ep epL:Nat}{sl sl0 slL:Array (Option Value)}{cdL:ClassData}
  (lc:K.lookup C=some (excClassObj nm qn C N bs (.ref L::bmVE) true sn sub ab col dd k0 k1 k2 k3 k5 "ValueError.__new__")) (ln:K.lookup N=some ⟨oc,od, .dict es ep,sl⟩) (kn:m_1 es=true) (hi:nsFind es "__init__" =none)
  (ll:K.lookup L=some ⟨c0,ddL, .cls cdL,sl0⟩) (lm:K.lookup cdL.ns=some ⟨oL,odL, .dict esL epL,slL⟩) (km:m_1 esL=true) (hL:nsFind esL "__init__" =none) (kp:keepIn K (.ref C)=true):keepIn K (.ref C)=true∧XMk0 K C:=⟨kp,cx_9 lc ln kn hi ll lm km hL⟩
def XB9(K:Frag)(C:Addr):Prop:=keepIn K (.ref C)=true∧XMk0 K C
theorem cn_8(xa:ClsAt K c C)(gx:mg c=some (.ref C))(b:XB9 K C):XC0 K mg c C:=⟨xa,gx,b.1,b.2⟩
theorem OInst.mm(pg:plainGet K C Str.empty=true)(hd:hasDictIn K C=true)(cl:findIn K (.ref C) "__class__" =some (some (.builtin "object.__class__")))(gs:specialIn K (.builtin "object.__class__") "__get__" =some (some (.builtin "getset_descriptor.__get__")))(tk:takesIn K (.builtin "object.__class__")=some true)(ob:mroIn K C (.type "object")=some true):OInst K C:=⟨pg,hd,cl,gs,tk,ob⟩
theorem NoAttr.mk(h:findIn K (.ref C) f=some none):NoAttr K C f:=h
theorem mto{tb:List (Str×(List D→R W))}(d:MethD P w K mg base cc j n m c Fn)(r:MethT P w K mg base cc k n m tb)(hj:j≤k:=by decide):MethT P w K mg base cc k n m ((c,Fn)::tb):= .one d hj r
theorem mtn:MethT P w K mg base cc k n m []:= .nil
end
def m_2:HO→Bool
 | .ins _ _ _=>true
 | .dK _=>true
 |_=>false
mutual
def Tn.lends:Tn→Bool
 | .sh _=>true
 | .lst _=>false
 | .tup _=>false
 | .dic zm=>Tn.lendsK zm
 | .obj _ _ ts=>Tn.lendsL ts
def Tn.lendsL:List Tn→Bool
 | []=>true
 |t::ts=>t.lends && Tn.lendsL ts
def Tn.lendsK:List (Key×Tn)→Bool
 | []=>true
 |(_,t)::ts=>t.lends && Tn.lendsK ts
end
theorem Tn.lendsK_eq:∀zm:List (Key×Tn),Tn.lendsL (zm.map (·.2))=Tn.lendsK zm
 | []=>by simp only [List.map_nil,Tn.lendsL,Tn.lendsK]
 |(k,t)::zm=>by simp only [List.map_cons,Tn.lendsL,Tn.lendsK,Tn.lendsK_eq zm]
mutual
theorem Ow.lend{G H:Hp}:∀{v:V} {t:Tn} {S:AS},Ow K G H v t S→t.lends=true→∃S':AS,(∀b,S' b→S b∧∃o,H b=some o∧m_2 o=true)∧Ow K G H v t S'
 |_,_,_, .sh h,_=>⟨fun _=>False,fun _ z=>z.elim, .sh h⟩
 |_,_,_, .lst h ha sub r,e=>by simp only [Tn.lends] at e;cases e
 |_,_,_, .tup h ha sub r,e=>by simp only [Tn.lends] at e;cases e
 |_,_,_, .dic (a:=a) h hk ha sub r,e=>by
  simp only [Tn.lends] at e;obtain⟨S1,f,r'⟩:=OwL.lend r (by rw [Tn.lendsK_eq];exact e);refine⟨fun b=>b=a∨S1 b,fun b hb=> ?_, .dic h hk (.inl rfl) (fun b hb=>⟨.inr hb,(sub b (f b hb).1).2⟩) r'⟩;rcases hb with rfl|hb
  ·exact⟨ha,_,h,rfl⟩
  ·exact⟨(sub b (f b hb).1).1,(f b hb).2⟩
 |_,_,_, .obj (a:=a) hc h hl ha sub r,e=>by
  simp only [Tn.lends] at e;obtain⟨S1,f,r'⟩:=OwL.lend r e;refine⟨fun b=>b=a∨S1 b,fun b hb=> ?_, .obj hc h hl (.inl rfl) (fun b hb=>⟨.inr hb,(sub b (f b hb).1).2⟩) r'⟩;rcases hb with rfl|hb
  ·exact⟨ha,_,h,rfl⟩
  ·exact⟨(sub b (f b hb).1).1,(f b hb).2⟩
theorem OwL.lend{G H:Hp}:∀{vs:List V} {ts:List Tn} {S:AS},OwL K G H vs ts S→Tn.lendsL ts=true→∃S':AS,(∀b,S' b→S b∧∃o,H b=some o∧m_2 o=true)∧OwL K G H vs ts S'
 |_,_,_, .nil,_=>⟨fun _=>False,fun _ z=>z.elim, .nil⟩
 |_,_,_, .cons h r dj s1 s2,e=>by
  simp only [Tn.lendsL,Bool.and_eq_true] at e;obtain⟨A,fA,hA⟩:=Ow.lend h e.1;obtain⟨B,fB,hB⟩:=OwL.lend r e.2;exact⟨fun b=>A b∨B b,fun b hb=>hb.elim (fun z=>⟨s1 b (fA b z).1,(fA b z).2⟩) fun z=>⟨s2 b (fB b z).1,(fB b z).2⟩, .cons hA hB (fun b x y=>dj b (fA b x).1 (fB b y).1) (fun _ z=> .inl z) fun _ z=> .inr z⟩
end
mutual
def c_9:D→Bool
 | .non=>true
 | .bl _=>true
 | .int _=>true
 | .str _=>true
 | .lst ds=>f_1 ds
 | .tup ds=>f_1 ds
 |_=>false
def f_1:List D→Bool
 | []=>true
 |d::ds=>c_9 d && f_1 ds
end
mutual
def f_2:Tn→Bool
 | .sh d=>c_9 d
 | .lst ts=>k_9 ts
 | .tup ts=>k_9 ts
 | .dic zm=>o_9 zm
 | .obj _ _ ts=>k_9 ts
def k_9:List Tn→Bool
 | []=>true
 |t::ts=>f_2 t && k_9 ts
def o_9:List (Key×Tn)→Bool
 | []=>true
 |(_,t)::ts=>f_2 t && o_9 ts
end
theorem ar_5:∀zm:List (Key×Tn),k_9 (zm.map (·.2))=o_9 zm
 | []=>by simp only [List.map_nil,k_9,o_9]
 |(k,t)::zm=>by simp only [List.map_cons,k_9,o_9,ar_5 zm]
def u_0:W→Bool
 | .sh d=>c_9 d
 | .ow d=>f_2 (Tn.of d)
 | .tr t=>f_2 t
open Classical in
def offQ(G:Hp)(S:AS):Hp:=fun b=>if S b then none else G b
section
variable{K:Frag}{G H:Hp}{S:AS}
theorem offQ_sub:Same (offQ G S) G:=fun b o e=>by
 unfold offQ at e
 split at e
 ·cases e
 ·exact e
theorem y_8{b:Addr}(h:¬S b):offQ G S b=G b:=by unfold offQ;rw [if_neg h]
theorem an_8{b:Addr}(h:S b):offQ G S b=none:=by unfold offQ;rw [if_pos h]
theorem aj_0(hs:∀b o,S b→G b=some o→m_2 o=true){b:Addr}{o:HO}(e:G b=some o)(n:m_2 o=false):offQ G S b=some o:=by
 rw [y_8 fun z=>by have:=hs b o z e;rw [n] at this;cases this];exact e
theorem bz_1(hs:∀b o,S b→G b=some o→m_2 o=true){a:Addr}{u:HO}(h:Rd G a u)(n:m_2 u=false):Rd (offQ G S) a u:=by
 rcases h with h|⟨o,h⟩
 ·exact .inl (aj_0 hs h n)
 ·exact .inr ⟨o,aj_0 hs h rfl⟩
mutual
theorem Has.offQ(hs:∀b o,S b→G b=some o→m_2 o=true):∀{v:V} {d:D},Has K G v d→c_9 d=true→Has K (L3.offQ G S) v d
 |_,_, .non,_=> .non
 |_,_, .bl b,_=> .bl b
 |_,_, .int i,_=> .int i
 |_,_, .str x,_=> .str x
 |_,_, .lst h r,e=>by
  simp only [c_9] at e;exact .lst (h.elim (fun z=> .inl (bz_1 hs z rfl)) .inr) (HasL.offQ hs r e)
 |_,_, .tup h r,e=>by
  simp only [c_9] at e;exact .tup (h.elim (fun z=> .inl (bz_1 hs z rfl)) .inr) (HasL.offQ hs r e)
 |_,_, .exn0 _ _,e=>by simp only [c_9] at e;cases e
 |_,_, .exn1 _ _ _ _ _,e=>by simp only [c_9] at e;cases e
 |_,_, .dic _ _ _,e=>by simp only [c_9] at e;cases e
 |_,_, .obj _ _ _ _,e=>by simp only [c_9] at e;cases e
theorem HasL.offQ(hs:∀b o,S b→G b=some o→m_2 o=true):∀{vs:List V} {ds:List D},HasL K G vs ds→f_1 ds=true→HasL K (L3.offQ G S) vs ds
 |_,_, .nil,_=> .nil
 |_,_, .cons h r,e=>by
  simp only [f_1,Bool.and_eq_true] at e;exact .cons (Has.offQ hs h e.1) (HasL.offQ hs r e.2)
end
mutual
theorem Ow.offQ(hs:∀b o,S b→G b=some o→m_2 o=true):∀{v:V} {t:Tn} {S':AS},Ow K G H v t S'→f_2 t=true→Ow K (L3.offQ G S) H v t S'
 |_,_,_, .sh h,e=>by simp only [f_2] at e;exact .sh (h.offQ hs e)
 |_,_,_, .lst h ha sub r,e=>by simp only [f_2] at e;exact .lst h ha sub (OwL.offQ hs r e)
 |_,_,_, .tup h ha sub r,e=>by simp only [f_2] at e;exact .tup h ha sub (OwL.offQ hs r e)
 |_,_,_, .dic h hk ha sub r,e=>by simp only [f_2] at e;exact .dic h hk ha sub (OwL.offQ hs r (by rw [ar_5];exact e))
 |_,_,_, .obj hc h hl ha sub r,e=>by simp only [f_2] at e;exact .obj hc h hl ha sub (OwL.offQ hs r e)
theorem OwL.offQ(hs:∀b o,S b→G b=some o→m_2 o=true):∀{vs:List V} {ts:List Tn} {S':AS},OwL K G H vs ts S'→k_9 ts=true→OwL K (L3.offQ G S) H vs ts S'
 |_,_,_, .nil,_=> .nil
 |_,_,_, .cons h r dj s1 s2,e=>by
  simp only [k_9,Bool.and_eq_true] at e;exact .cons (Ow.offQ hs h e.1) (OwL.offQ hs r e.2) dj s1 s2
end
theorem ExcAt.offQ(hs:∀b o,S b→G b=some o→m_2 o=true){cls:Value}{dx:Option Addr}{x:Xn}(h:ExcAt K G cls dx x)(e:f_1 x.vs=true):ExcAt K (L3.offQ G S) cls dx x:=by
 cases h with
 |bare hc=>exact .bare hc
 |with_ hc hd hl r=>exact .with_ hc (aj_0 hs hd rfl) hl (r.offQ hs e)
end
def y_9(js:List Nat):Nat→SE→DE
 |_, []=> []
 |n,s::Δ=>(if js.contains n=true then s.any else s.pub)::y_9 js (n + 1) Δ
def vsel(js:List Nat)(Δ:SE):DE:=y_9 js 0 Δ
theorem ay_7(js:List Nat):∀(Δ:SE) (n i:Nat),(y_9 js n Δ)[i]? =(Δ[i]?).map fun s=>if js.contains (n + i)=true then s.any else s.pub
 | [],n,i=>by simp only [y_9,List.getElem?_nil,Option.map_none]
 |s::Δ,n,0=>by simp only [y_9,List.getElem?_cons_zero,Option.map_some,Nat.add_zero]
 |s::Δ,n,i + 1=>by
  simp only [y_9,List.getElem?_cons_succ];rw [ay_7 js Δ (n + 1) i,show n + 1 + i=n + (i + 1) by omega]
theorem ay_8(js:List Nat):∀(Δ:SE) (n:Nat),(y_9 js n Δ).length=Δ.length
 | [],_=>rfl
 |s::Δ,n=>by simp only [y_9,List.length_cons,ay_8 js Δ]
def n_7(js:List Nat)(Δ:SE):Bool:=js.all fun j=>match Δ[j]? with
 |some s=>(match s.own with
  |some t=>t.lends
  |none=>true)
 |none=>true
section
variable{K:Frag}{H0:HB}{G0 G H:Hp}{σ:Sg}{Δ:SE}{O:OS}
theorem Sl.any_own{s:Sl}{d:D}(e:s.any=some d):s= .sh d∨∃t,s.own=some t∧t.d=d:=by
 cases s with
 |no=>cases e
 |sh d'=>cases e;exact .inl rfl
 |ow d'=>cases e;exact .inr ⟨_,rfl,Tn.of_d _⟩
 |tr t=>cases e;exact .inr ⟨_,rfl,rfl⟩
 |lk d'=>cases e;exact .inr ⟨_,rfl,Tn.of_d _⟩
 |lt t=>cases e;exact .inr ⟨_,rfl,rfl⟩
theorem Ev.lend(E:Ev K H0 G0 G H σ Δ O)(js:List Nat)(hl:n_7 js Δ=true):∃S:AS,(∀b,S b→∃i,O i b)∧(∀b,S b→∃o,H b=some o∧m_2 o=true)∧HasS K (e_7 G H S) σ (vsel js Δ):=by
 let S:AS:=fun b=>∃(i:Nat) (s:Sl) (t:Tn) (v:V) (S':AS),Δ[i]? =some s∧s.own=some t∧σ[i]? =some (some v)∧(∀b,S' b→O i b∧∃o,H b=some o∧m_2 o=true)∧S' b
 have hS:∀b,S b→∃i,O i b:=fun b ⟨i,s,t,v,S',_,_,_,f,hb⟩=>⟨i,(f b hb).1⟩;have sg:Same G (e_7 G H S):=fun b o q=>by
  unfold e_7
  split
  ·rename_i hb;obtain⟨i,hi⟩:=hS b hb;rw [(E.out i b hi).1] at q;cases q
  ·exact q
 refine⟨S,hS,fun b ⟨i,s,t,v,S',_,_,_,f,hb⟩=>(f b hb).2,by unfold vsel;rw [ay_8];exact E.len,fun i d q=> ?_⟩;unfold vsel at q;rw [ay_7,Nat.zero_add] at q;obtain⟨s,es,q⟩:=Option.map_eq_some_iff.mp q
 split at q
 ·rename_i hj;rcases Sl.any_own q with rfl|⟨t,to,rfl⟩
  ·obtain⟨v,e1,r⟩:=E.sh i d es;exact⟨v,e1,r.mono sg⟩
  ·obtain⟨v,e1,w⟩:=E.ow i s t es to;have lt:t.lends=true:=by
    have:=List.all_eq_true.mp hl i (List.contains_iff_mem.mp hj);rw [es] at this;simp only [to] at this;exact this
   obtain⟨S',f,w'⟩:=w.lend lt;refine⟨v,e1,w'.has sg fun b o hb hq=> ?_⟩;unfold e_7;rw [if_pos ⟨i,s,t,v,S',es,to,e1,f,hb⟩];exact hq
 ·cases s with
  |sh d'=>cases q;obtain⟨v,e1,r⟩:=E.sh i _ es;exact⟨v,e1,r.mono sg⟩
  |_=>cases q
theorem bl_7(E:Ev K H0 G0 G H σ Δ O){S:AS}(hS:∀b,S b→∃i,O i b):offQ (e_7 G H S) S=G:=by
 funext b
 by_cases hb:S b
 ·rw [an_8 hb];obtain⟨i,hi⟩:=hS b hb;exact(E.out i b hi).1.symm
 ·rw [y_8 hb];unfold e_7;rw [if_neg hb]
theorem cn_9(E:Ev K H0 G0 G H σ Δ O){S:AS}:Same (e_7 G H S) H:=fun b o q=>by
 unfold e_7 at q
 split at q
 ·exact q
 ·exact E.st.gh b o q
theorem co_0{S:AS}(hk:∀b,S b→∃o,H b=some o∧m_2 o=true):∀b,S b→∃o,e_7 G H S b=some o∧m_2 o=true:=fun b hb=>by
 obtain⟨o,e,l⟩:=hk b hb;exact⟨o,by unfold e_7;rw [if_pos hb];exact e,l⟩
end
theorem Step.offQ{G H G2 H2:Hp}{S:AS}(st:Step G H G2 H2):Step (L3.offQ G S) H (L3.offQ G2 S) H2:=
 ⟨st.hh,fun b o q=>st.gh b o (offQ_sub b o q),fun b o q=>by
  by_cases hb:S b
  ·rw [an_8 hb] at q;cases q
  ·rw [y_8 hb] at q⊢;exact st.gg b o q,fun b n z=>by
  by_cases hb:S b
  ·exact an_8 hb
  ·rw [y_8 hb] at n⊢;exact st.nw b n z⟩
theorem Step.lentK{G H G2 H2:Hp}{S:AS}(st:Step G H G2 H2)(hk:∀b,S b→∃o,G b=some o∧m_2 o=true):∀b,S b→∃o,G2 b=some o∧m_2 o=true:=fun b hb=>by
 obtain⟨o,e,l⟩:=hk b hb;exact⟨o,st.gg b o e,l⟩
theorem kin{G:Hp}{S:AS}(hk:∀b,S b→∃o,G b=some o∧m_2 o=true):∀b o,S b→G b=some o→m_2 o=true:=fun b o hb q=>by
 obtain⟨o',e,l⟩:=hk b hb;rw [e] at q;cases q;exact l
def do_7(EX:EXT):EXT:=⟨fun x G H=>f_1 x.vs=true∧∃S:AS,(∀b,S b→∃o,G b=some o∧m_2 o=true)∧EX.p x (offQ G S) H,
 fun _ _ _ _ _ st ⟨pl,S,k,q⟩=>⟨pl,S,st.lentK k,EX.mono _ _ _ _ _ st.offQ q⟩⟩
def be_8(EX:EXS):EXS:=fun σ=>do_7 (EX σ)
theorem Lk.lend{EX:EXS}(lk:Lk X EX):Lk X (be_8 EX):=fun zd σ H s e s' I c=>by
 obtain⟨a,C,dx,T,H',h1,h2,h3,h4,h5,h6,h7,h8,h9,h10,x,G,sg,ea,pl,S,k,q⟩:=c;exact lk zd σ H s e s' I ⟨a,C,dx,T,H',h1,h2,h3,h4,h5,h6,h7,h8,h9,h10,x,offQ G S,offQ_sub.trans sg,ea.offQ (kin k) pl,q⟩
section
variable{K:Frag}{EX:EXS}{H0:HB}{G0 G H:Hp}{σ:Sg}{Δ:SE}{O:OS}{f:FE}{Q:VK}{js:List Nat}{w:W}{x:Xn}
theorem bz_2(E:Ev K H0 G0 G H σ Δ O)(hl:n_7 js Δ=true)(e:f (vsel js Δ)= .ok w)(pw:u_0 w=true)(q:WP K G H w Q):tD K EX f σ H Q:=by
 obtain⟨S,hS,hk,hs⟩:=E.lend js hl;have k1:=co_0 (G:=G) hk;refine⟨e_7 G H S,vsel js Δ,cn_9 E,hs, ?_⟩;rw [e];have st':∀{G2 H2:Hp},Step (e_7 G H S) H G2 H2→Step G H (offQ G2 S) H2:=fun st=>by
  have:=st.offQ (S:=S);rw [bl_7 E hS] at this;exact this
 cases w with
 |sh d=>exact fun v G2 H2 st r=>q v (offQ G2 S) H2 (st' st) (r.offQ (kin (st.lentK k1)) pw)
 |ow d=>exact fun v S' G2 H2 st fr t=>q v S' (offQ G2 S) H2 (st' st) (fun a ha=>⟨(fr a ha).1,offQ_sub.free (fr a ha).2.1,(fr a ha).2.2⟩) (t.offQ (kin (st.lentK k1)) pw)
 |tr t=>exact fun v S' G2 H2 st fr t=>q v S' (offQ G2 S) H2 (st' st) (fun a ha=>⟨(fr a ha).1,offQ_sub.free (fr a ha).2.1,(fr a ha).2.2⟩) (t.offQ (kin (st.lentK k1)) pw)
theorem bz_3(E:Ev K H0 G0 G H σ Δ O)(hl:n_7 js Δ=true)(e:f (vsel js Δ)= .ex x)(pl:f_1 x.vs=true)(q:(EX σ).p x G H):tD K (be_8 EX) f σ H Q:=by
 obtain⟨S,hS,hk,hs⟩:=E.lend js hl;refine⟨e_7 G H S,vsel js Δ,cn_9 E,hs, ?_⟩;rw [e];exact⟨pl,S,co_0 hk,by rw [bl_7 E hS];exact q⟩
end
inductive FM where
 |ok (d:D) (Δ:SE)|ex (x:Xn) (Δ:SE)|no
def OutM(K:Frag)(EX:EXS)(H0:HB)(G0 G1:Hp)(σ:Sg)(r:FM)(Q:VK):Prop:=match r with
 | .ok d Δ=>∀v G H O,Ev K H0 G0 G H σ Δ O→Same G1 G→Has K G v d→Q v H
 | .ex x Δ=>∀G H O,Ev K H0 G0 G H σ Δ O→Same G1 G→(EX σ).p x G H
 | .no=>False
theorem OutM.mono{EX:EXS}{H0:HB}{G0 G1 G2:Hp}{σ:Sg}{r:FM}{Q:VK}(s:Same G1 G2)(h:OutM K EX H0 G0 G1 σ r Q):OutM K EX H0 G0 G2 σ r Q:=by
 cases r with
 |ok d Δ=>exact fun v G H O E q r=>h v G H O E (s.trans q) r
 |ex x Δ=>exact fun G H O E q=>h G H O E (s.trans q)
 |no=>exact h
def tM(K:Frag)(EX:EXS)(g:SE→FM):TE:=fun σ H Q=>∃H0 G0 G Δ O,Ev K H0 G0 G H σ Δ O∧OutM K EX H0 G0 G σ (g Δ) Q
abbrev EM(X:Cx)(EX:EXS)(e:Expr)(g:SE→FM):Prop:=PE X e (tM X.K EX g)
def tMt(K:Frag)(EX:EXS)(g:SE→FM):TT:=fun σ H Q=>tM K EX g σ H fun v H'=>∃b,v= .bl b∧Q b H'
abbrev TM(X:Cx)(EX:EXS)(e:Expr)(g:SE→FM):Prop:=PT X e (tMt X.K EX g)
def j_6(js:List Nat)(f:FE):SE→FM:=fun Δ=>if n_7 js Δ=true then(match f (vsel js Δ) with
 | .ok w=>if u_0 w=true then .ok w.d Δ else .no
 | .ex x=>if f_1 x.vs=true then .ex x Δ else .no
 | .no=> .no) else .no
def mOp(r:D→D→R W)(g g2:SE→FM):SE→FM:=fun Δ=>match g Δ with
 | .ok d1 Δ1=>(match g2 Δ1 with
  | .ok d2 Δ2=>(match r d1 d2 with
   | .ok w=> .ok w.d Δ2
   |_=> .no)
  |r=>r)
 |r=>r
def mNot(g:SE→FM):SE→FM:=fun Δ=>match g Δ with
 | .ok (.bl b) Δ1=> .ok (.bl (!b)) Δ1
 | .ok _ _=> .no
 |r=>r
def bl_8(g:SE→FM):SE→FM:=fun Δ=>match g Δ with
 | .ok (.bl b) Δ1=> .ok (.bl b) Δ1
 | .ok _ _=> .no
 |r=>r
def mAnd(p:FT)(g:SE→FM):SE→FM:=fun Δ=>match p (vall Δ) with
 | .ok b=>if b=true then g Δ else .ok (.bl false) Δ
 |_=> .no
section
variable{X:Cx}{EX:EXS}{a b e:Expr}{f:FE}{p:FT}{g g2:SE→FM}{pos:Pos}
theorem p_0(js:List Nat)(he:ED X (be_8 EX) e f):EM X EX e (j_6 js f):=PE.imp he fun σ H Q ⟨H0,G0,G,Δ,O,E,q⟩=>by
 unfold j_6 at q
 split at q
 ·rename_i hl;cases e1:f (vsel js Δ) with
  |ok w=>
   simp only [e1] at q
   split at q
   ·rename_i pw;exact bz_2 E hl e1 pw (WP.intro fun v G' H' st r=>q v G' H' O (E.grow st) st.gg r)
   ·exact q.elim
  |ex x=>
   simp only [e1] at q
   split at q
   ·rename_i pl;exact bz_3 E hl e1 pl (q G H O E (Same.refl _))
   ·exact q.elim
  |no=>simp only [e1] at q;exact q.elim
 ·exact q.elim
theorem do_8{r:D→D→R W}{σ:Sg}{Q:VK}(q:tM K EX (mOp r g g2) σ H Q):tOp (rD K r) (tM K EX g) (tM K EX g2) σ H Q:=by
 obtain⟨H0,G0,G,Δ,O,E,q⟩:=q;refine⟨H0,G0,G,Δ,O,E, ?_⟩;unfold mOp at q;cases e1:g Δ with
 |ok d1 Δ1=>
  simp only [e1] at q;intro v1 G1 H1 O1 E1 s1 r1;refine⟨H0,G0,G1,Δ1,O1,E1, ?_⟩;cases e2:g2 Δ1 with
  |ok d2 Δ2=>
   simp only [e2] at q;intro v2 G2 H2 O2 E2 s2 r2;cases e3:r d1 d2 with
   |ok w=>
    simp only [e3] at q;refine⟨EX0,G2,d1,d2,E2.st.gh,r1.mono s2,r2, ?_⟩;rw [e3];exact WP.intro fun v3 G3 H3 st r3=>q v3 G3 H3 O2 (E2.grow st) (s1.trans (s2.trans st.gg)) r3
   |ex x=>simp only [e3] at q;exact q.elim
   |no=>simp only [e3] at q;exact q.elim
  |ex x Δ2=>simp only [e2] at q;exact fun G2 H2 O2 E2 s2=>q G2 H2 O2 E2 (s1.trans s2)
  |no=>simp only [e2] at q;exact q.elim
 |ex x Δ1=>simp only [e1] at q;exact q
 |no=>simp only [e1] at q;exact q.elim
theorem be_9{op:CmpOp}{r:D→D→R W}(ho:OpD X (compareOp op) r)(ha:EM X EX a g)(hb:EM X EX b g2)(hm:behindInMarks op b=false):TM X EX (.Compare a [op] [b] pos) (mOp r g g2):=
 PT.imp (bw_0 ho ha hb hm) fun σ H Q q=>do_8 q
theorem dj_0(ha:TM X EX a g):TM X EX (.UnaryOp .Not a pos) (mNot g):=PT.imp (ci_1 ha) fun σ H Q ⟨H0,G0,G,Δ,O,E,q⟩=>by
 refine⟨H0,G0,G,Δ,O,E, ?_⟩;unfold mNot at q;cases e1:g Δ with
 |ok d Δ1=>
  simp only [e1] at q;cases d with
  |bl b=>
   intro v G1 H1 O1 E1 s1 r1;cases r1;obtain⟨b',z,q⟩:=q (.bl (!b)) G1 H1 O1 E1 s1 (.bl _);cases z;exact⟨b,rfl,q⟩
  |_=>exact q.elim
 |ex x Δ1=>simp only [e1] at q;exact q
 |no=>simp only [e1] at q;exact q.elim
theorem do_9(ha:EM X EX a g)(he:∀whole,isTrue a X.env whole=(do let v←whole;standAt a.pos;holding [v] (truthy v)):=by intro _;rfl):TM X EX a (bl_8 g):=PT.imp (bh_0 ha he) fun σ H Q ⟨H0,G0,G,Δ,O,E,q⟩=>by
 refine⟨H0,G0,G,Δ,O,E, ?_⟩;unfold bl_8 at q;cases e1:g Δ with
 |ok d Δ1=>
  simp only [e1] at q;cases d with
  |bl b=>
   intro v G1 H1 O1 E1 s1 r1;obtain⟨b',z,q⟩:=q v G1 H1 O1 E1 s1 r1;subst z;exact⟨b',rfl,q⟩
  |_=>exact q.elim
 |ex x Δ1=>simp only [e1] at q;exact q
 |no=>simp only [e1] at q;exact q.elim
theorem dj_1(ha:TD X EX a p)(hb:TM X EX b g):TM X EX (.BoolOp .And [a,b] pos) (mAnd p g):=PT.imp (PW.pt (ci_0 ha (bv_4 hb))) fun σ H Q ⟨H0,G0,G,Δ,O,E,q⟩=>by
 unfold mAnd at q;cases e1:p (vall Δ) with
 |ok b=>
  simp only [e1] at q;refine⟨x_7 G H O,vall Δ,E.aH,E.gall, ?_⟩;rw [e1];intro G' H' st;cases b with
  |true=>
   rw [if_pos rfl] at q⊢;exact⟨H0,G0,G,Δ,O,E.keep st.hh,q⟩
  |false=>
   rw [if_neg Bool.false_ne_true] at q⊢;obtain⟨b',z,q⟩:=q (.bl false) G H' O (E.keep st.hh) (Same.refl _) (.bl _);cases z;exact q
 |ex x=>simp only [e1] at q;exact q.elim
 |no=>simp only [e1] at q;exact q.elim
end
def l_9(i:Nat)(g:SE→FM):FS:=fun Δ=>match g Δ with
 | .ok d Δ1=> .nx (Δ1.set i (.sh d))
 | .ex x Δ1=> .ex x Δ1
 | .no=> .no
def k_1(g:SE→FM):FS:=fun Δ=>match g Δ with
 | .ok _ Δ1=> .nx Δ1
 | .ex x Δ1=> .ex x Δ1
 | .no=> .no
def l_6(g:SE→FM):FS:=fun Δ=>match g Δ with
 | .ok d Δ1=> .rv d Δ1
 | .ex x Δ1=> .ex x Δ1
 | .no=> .no
def sIfM(t:SE→FM)(g h:FS):FS:=fun Δ=>match t Δ with
 | .ok (.bl b) Δ1=>if b=true then g Δ1 else h Δ1
 | .ex x Δ1=> .ex x Δ1
 |_=> .no
section
variable{X:Cx}{EX:EXS}{e:Expr}{g:SE→FM}{g1 g2:FS}{pos:Pos}
theorem aa_9{i:Nat}{x:Str}{pos':Pos}(he:EM X EX e g)(hN:X.N.Nodup)(hi:X.N[i]? =some x:=by rfl)(hx:Loc X.env.scope x:=by first|exact Or.inl rfl|exact Or.inr rfl)(hs:swapsWith e (some (.Name x pos')) pos.line X.env=pure false:=by rfl)
  (hf:X.fn x=true∨X.env.scope.names.lookup x=some .local:=by first|exact .inl rfl|exact .inr rfl|assumption):SD X EX (.Assign [.Name x pos'] e pos) (l_9 i g):=
 PS.imp (bp_3 hN hi hx he hs hf) fun D σ H ⟨H0,G0,G,Δ,O,E,q⟩=>by
  refine⟨H0,G0,G,Δ,O,E, ?_⟩;unfold l_9 at q;cases e1:g Δ with
  |ok d Δ1=>simp only [e1] at q;exact fun v G1 H1 O1 E1 s1 r1=>q _ G1 H1 O1 (E1.put r1) s1
  |ex x Δ1=>simp only [e1] at q;exact fun G1 H1 O1 E1 s1=>q σ G1 H1 O1 E1 s1
  |no=>simp only [e1] at q;exact q.elim
theorem p_6(he:EM X EX e g)(hs:swapsWith e none pos.line X.env=pure false:=by rfl):SD X EX (.Expr e pos) (k_1 g):=
 PS.imp (z_9 he hs) fun D σ H ⟨H0,G0,G,Δ,O,E,q⟩=>by
  refine⟨H0,G0,G,Δ,O,E, ?_⟩;unfold k_1 at q;cases e1:g Δ with
  |ok d Δ1=>simp only [e1] at q;exact fun v G1 H1 O1 E1 s1 r1=>q σ G1 H1 O1 E1 s1
  |ex x Δ1=>simp only [e1] at q;exact fun G1 H1 O1 E1 s1=>q σ G1 H1 O1 E1 s1
  |no=>simp only [e1] at q;exact q.elim
theorem q_9(he:EM X EX e g):SD X EX (.Return (some e) pos) (l_6 g):=
 PS.imp (bp_2 he) fun D σ H ⟨H0,G0,G,Δ,O,E,q⟩=>by
  refine⟨H0,G0,G,Δ,O,E, ?_⟩;unfold l_6 at q;cases e1:g Δ with
  |ok d Δ1=>simp only [e1] at q;exact fun v G1 H1 O1 E1 s1 r1=>q v σ G1 H1 O1 E1 s1 r1
  |ex x Δ1=>simp only [e1] at q;exact fun G1 H1 O1 E1 s1=>q σ G1 H1 O1 E1 s1
  |no=>simp only [e1] at q;exact q.elim
theorem ar_6{c:Expr}{as bs:List Stmt}(hc:TM X EX c g)(ha:BD X EX as g1)(hb:BD X EX bs g2):SD X EX (.If c as bs pos) (sIfM g g1 g2):=
 PS.imp (db_7 hc ha hb) fun D σ H ⟨H0,G0,G,Δ,O,E,q⟩=>by
  refine⟨H0,G0,G,Δ,O,E, ?_⟩;unfold sIfM at q;cases e1:g Δ with
  |ok d Δ1=>
   simp only [e1] at q;cases d with
   |bl b=>
    intro v G1 H1 O1 E1 s1 r1;cases r1;refine⟨b,rfl, ?_⟩;cases b with
    |true=>rw [if_pos rfl];exact⟨H0,G0,G1,Δ1,O1,E1,Fin.mono s1 q⟩
    |false=>rw [if_neg Bool.false_ne_true];exact⟨H0,G0,G1,Δ1,O1,E1,Fin.mono s1 q⟩
   |_=>exact q.elim
  |ex x Δ1=>simp only [e1] at q;exact fun G1 H1 O1 E1 s1=>q σ G1 H1 O1 E1 s1
  |no=>simp only [e1] at q;exact q.elim
end
inductive RR where
 |ok (d:D) (t:Tn)|ex (x:Xn) (t:Tn)|no
def n_8(n:Nat)(t:Tn)(ds:List D):SE:= .lt t::(ds.map Sl.sh ++ List.replicate (n - (ds.length + 1)) .no)
def m_3(n:Nat)(g:FS)(t:Tn)(ds:List D):RR:=match g (n_8 n t ds) with
 | .nx (.lt t'::_)=> .ok .non t'
 | .rv d (.lt t'::_)=> .ok d t'
 | .ex x (.lt t'::_)=> .ex x t'
 |_=> .no
def spR(K:Frag)(n:Nat)(F:Tn→List D→RR):Sp:=fun vs H Q E=>∃a0 vs0,vs= .ref a0::vs0∧vs0.length=n∧∃G ds t S,Same G H∧HasL K G vs0 ds∧Ow K G H (.ref a0) t S∧(∀a,S a→G a=none∧H a≠none)∧
 match F t ds with
 | .ok d t'=>∀v G' H' S',MStep2 S G H G' H'→(∀a,S' a→(S a∨H a=none)∧G' a=none∧H' a≠none)→Ow K G' H' (.ref a0) t' S'→Has K G' v d→Q v H'
 | .ex x t'=>∀cls dx G' H' S',MStep2 S G H G' H'→(∀a,S' a→(S a∨H a=none)∧G' a=none∧H' a≠none)→Ow K G' H' (.ref a0) t' S'→ExcAt K G' cls dx x→E cls dx H'
 | .no=>False
open Classical in
theorem fn_R{c:Bool}{P:Program}{w:World}{x qual:Str}{st:Stmt}{f:Addr}{N ps:List Str}{k n:Nat}{g:FS}(F:Fun K x qual st f fd)(S:FnScope N ps (b_5 st))(hn:ps.length=n + 1)(hle:ps.length≤N.length)
  (zj:∀(zp:Value) (A:Around) (outer:List Env) (s:Shared) (H:Hp) (E:XK),RoomC c k (A.deeper (envOfC qual (b_5 st) s.heap.objs.size f zp))→
   BD (cxN c P w K mg base N qual (b_5 st) f zp A outer s H E) (fun _=>EXof K E) (f_4 st) g):FnX P w K mg base c (k + 1) f fd ps (spR K n (m_3 N.length g)):=by
 refine Fun.okX F S (fun vs H Q E h=> ?_) fun zp A outer s H vs Q E hr h=>⟨_,zj zp A outer s H E hr, ?_⟩
 ·obtain⟨a0,vs0,rfl,hl,_⟩:=h;rw [List.length_cons,hl,hn]
 obtain⟨a0,vs0,rfl,hl,G,ds,t,S0,g0,r,tw,out,q⟩:=h;have i0:Same (fun b=>if S0 b then none else H b) H:=fun b o e=>by
  simp only at e
  split at e
  ·cases e
  ·exact e
 have E0:=ay_2 (N:=N) (b:=fun _=>a0) (v0:= .ref a0) g0 i0 r (by rw [hl];omega);have hs:(p_4 N (.ref a0::vs0))[0]? =some (some (.ref a0)):=rfl;have E1:=E0.putO (i:=0) (z:= .lt t) (v:= .ref a0) (S:=S0) (fun a ha=>⟨by simp only;rw [if_pos ha],(out a ha).1,(out a ha).2⟩) rfl (fun _ z=>by cases z) tw (fun j a ha=>ha.elim) (fun _ _=>rfl);rw [u_5 hs] at E1;refine⟨⟨fun b=>if S0 b then none else H b,fun _=>a0⟩,G,G,_,_,E1, ?_⟩;have e2:(Sl.no::(ds.map Sl.sh ++ List.replicate (N.length - (ds.length + 1)) .no)).set 0 (.lt t)=n_8 N.length t ds:=rfl;rw [e2];have fin:∀{Δ:SE} {t':Tn} {σ:Sg} {G' H':Hp} {O:OS},Ev K ⟨fun b=>if S0 b then none else H b,fun _=>a0⟩ G G' H' σ (.lt t'::Δ) O→MStep2 S0 G H G' H'∧(∀a,O 0 a→(S0 a∨H a=none)∧G' a=none∧H' a≠none)∧Ow K G' H' (.ref a0) t' (O 0):=fun{Δ t' σ G' H' O} E'=>by
  obtain⟨v,s1,t3⟩:=E'.ow 0 (.lt t') t' rfl rfl;have s2:=E'.lt 0 t' rfl;rw [s1] at s2;cases s2;refine⟨⟨fun b o nb z=>E'.st.hh b o (by simp only;rw [if_neg nb];exact z),E'.st.gh,E'.st.gg,fun b nb z1 z2=>E'.st.nw b z1 (by simp only;rw [if_neg nb];exact z2)⟩,fun a ha=> ?_,t3⟩;obtain⟨k1,k2,k3⟩:=E'.out _ a ha;refine⟨?_,k1,k3⟩;simp only at k2
  split at k2
  ·rename_i z;exact .inl z
  ·exact .inr k2
 unfold m_3 at q;cases e:g (n_8 N.length t ds) with
 |nx Δ=>
  rw [e] at q;cases Δ with
  |nil=>exact q.elim
  |cons s Δ=>
   cases s with
   |lt t'=>
    intro σ G' H' O E' _;obtain⟨ms,fr,tt⟩:=fin E';exact q .non G' H' _ ms fr tt .non
   |_=>exact q.elim
 |rv d Δ=>
  rw [e] at q;cases Δ with
  |nil=>exact q.elim
  |cons s Δ=>
   cases s with
   |lt t'=>
    intro v σ G' H' O E' _ rv;obtain⟨ms,fr,tt⟩:=fin E';exact q v G' H' _ ms fr tt rv
   |_=>exact q.elim
 |ex x Δ=>
  rw [e] at q;cases Δ with
  |nil=>exact q.elim
  |cons s Δ=>
   cases s with
   |lt t'=>
    intro σ G' H' O E' _ cls dx G2 H2 st2 ea;obtain⟨ms,fr,tt⟩:=fin (E'.grow st2);exact q cls dx G2 H2 _ ms fr tt ea
   |_=>exact q.elim
 |rt w=>rw [e] at q;exact q.elim
 |bk Δ=>rw [e] at q;exact q.elim
 |ct Δ=>rw [e] at q;exact q.elim
 |no=>rw [e] at q;exact q.elim
def FnRd(P:Program)(w:World)(K:Frag)(mg:Str→Option Value)(base:Heap)(c:Bool)(x:Str)(k n:Nat)(ps:List Str)(F:Tn→List D→RR):Prop:=
 ∃f fd,FnX P w K mg base c k f fd ps (spR K n F)∧mg x=some (.ref f)∧keepIn K (.ref f)=true∧Binds K fd ps []
theorem dj_2{c:Bool}{P:Program}{w:World}{x:Str}{st:Stmt}{f:Addr}{ps:List Str}{k n:Nat}{Fn:Tn→List D→RR}(F:Fun K x x st f fd)(hm:mg x=some (.ref f))(hb:Binds K fd ps [])
  (ok:FnX P w K mg base c k f fd ps (spR K n Fn)):FnRd P w K mg base c x k n ps Fn:=⟨f,fd,ok,hm,F.kp,hb⟩
structure MethR(P:Program)(w:World)(K:Frag)(mg:Str→Option Value)(base:Heap)(cc:Bool)(k n:Nat)(m c:Str)(F:Tn→List D→RR):Prop where
 ex:∃C f fd ps,ClsAt K c C∧Cls K C∧Meth K C m f∧FnX P w K mg base cc k f fd ps (spR K n F)∧Binds K fd ps []
def tMa(K:Frag)(EX:EXS)(ga:SE→R (List D)):TA:=fun σ H Q=>∃H0 G0 G Δ O,Ev K H0 G0 G H σ Δ O∧match ga Δ with
 | .ok ds=>∀vs G' H',Ev K H0 G0 G' H' σ Δ O→Same G G'→HasL K G' vs ds→Q vs H'
 | .ex x=>∀G' H',Ev K H0 G0 G' H' σ Δ O→Same G G'→(EX σ).p x G' H'
 | .no=>False
abbrev AM(X:Cx)(EX:EXS)(es:List Expr)(ga:SE→R (List D)):Prop:=PA X es (tMa X.K EX ga)
def h_0:SE→R (List D):=fun _=> .ok []
def ak_7(js:List Nat)(f:FE)(ga:SE→R (List D)):SE→R (List D):=fun Δ=>if n_7 js Δ=true then(match f (vsel js Δ) with
 | .ok w=>if u_0 w=true then(match ga Δ with
  | .ok ds=> .ok (w.d::ds)
  | .ex x=> .ex x
  | .no=> .no) else .no
 | .ex x=>if f_1 x.vs=true then .ex x else .no
 | .no=> .no) else .no
section
variable{X:Cx}{EX:EXS}{e:Expr}{es:List Expr}{f:FE}{ga:SE→R (List D)}{x:Str}{pp pos:Pos}{c:Bool}{k k' n:Nat}{ps:List Str}
theorem q_5:AM X EX [] h_0:=PA.imp m_7 fun σ H Q ⟨H0,G0,G,Δ,O,E,q⟩=>q [] G H E (Same.refl _) .nil
theorem cy_2(js:List Nat)(ha:ED X (be_8 EX) e f)(hr:AM X EX es ga)(hs:starEach (e::es) X.env=(false,eval e X.env)::starEach es X.env:=by rfl):AM X EX (e::es) (ak_7 js f ga):=
 PA.imp (f_6 ha hr hs) fun σ H Q ⟨H0,G0,G,Δ,O,E,q⟩=>by
  unfold ak_7 at q
  by_cases hl:n_7 js Δ=true
  ·rw [if_pos hl] at q;cases e1:f (vsel js Δ) with
   |ok w=>
    simp only [e1] at q
    by_cases pw:u_0 w=true
    ·rw [if_pos pw] at q;refine bz_2 E hl e1 pw (WP.intro fun v G1 H1 st r=>⟨H0,G0,G1,Δ,O,E.grow st, ?_⟩);cases e2:ga Δ with
     |ok ds=>simp only [e2] at q;exact fun vs G2 H2 E2 s2 r2=>q (v::vs) G2 H2 E2 (st.gg.trans s2) (.cons (r.mono s2) r2)
     |ex x=>simp only [e2] at q;exact fun G2 H2 E2 s2=>q G2 H2 E2 (st.gg.trans s2)
     |no=>simp only [e2] at q
    ·rw [if_neg pw] at q;exact q.elim
   |ex x=>
    simp only [e1] at q
    by_cases pl:f_1 x.vs=true
    ·rw [if_pos pl] at q;exact bz_3 E hl e1 pl (q G H E (Same.refl _))
    ·rw [if_neg pl] at q;exact q.elim
   |no=>simp only [e1] at q
  ·rw [if_neg hl] at q;exact q.elim
def goR(i:Nat)(lk:Bool)(Δ:SE):RR→FM
 | .ok d t'=> .ok d (Δ.set i (Sl.mk lk t'))
 | .ex x t'=> .ex x (Δ.set i (Sl.mk lk t'))
 | .no=> .no
def k_2(i n:Nat)(F:Tn→List D→RR)(ga:SE→R (List D)):SE→FM:=fun Δ=>match(Δ[i]?).bind Sl.tree with
 |some (.obj c ns ts,lk)=>(match ga Δ with
  | .ok ds=>if ds.length=n then goR i lk Δ (F (.obj c ns ts) ds) else .no
  | .ex x=> .ex x Δ
  | .no=> .no)
 |_=> .no
def m_0(i n:Nat)(m c:Str)(F:Tn→List D→RR)(ga:SE→R (List D)):SE→FM:=fun Δ=>match(Δ[i]?).bind Sl.tree with
 |some (.obj c' ns ts,lk)=>if c'=c∧ns.contains m=false then(match ga Δ with
  | .ok ds=>if ds.length=n then goR i lk Δ (F (.obj c' ns ts) ds) else .no
  | .ex x=> .ex x Δ
  | .no=> .no) else .no
 |_=> .no
theorem co_2{H0:HB}{G0 G G1 H1:Hp}{σ:Sg}{Δ:SE}{O:OS}{i:Nat}{s:Sl}{c:Str}{ns:List Str}{ts:List Tn}{lk:Bool}{F:Tn→List D→RR}{a0:Addr}{vs:List V}{ds:List D}{Q:VK}
  (e1:Δ[i]? =some s) (etr:s.tree=some (.obj c ns ts,lk)) (s1:σ[i]? =some (some (.ref a0))) (E1:Ev K H0 G0 G1 H1 σ Δ O) (sg:Same G G1) (r:HasL K G1 vs ds) (hl:ds.length=n) (q:OutM K EX H0 G0 G σ (goR i lk Δ (F (.obj c ns ts) ds)) Q):spR K n F (.ref a0::vs) H1 Q (EXE K (EX σ)):=by
 obtain⟨v0,s1',t0⟩:=E1.ow i _ _ e1 (Sl.tree_own etr);rw [s1] at s1';cases s1';refine⟨a0,vs,rfl,by rw [r.length];exact hl,G1,ds, .obj c ns ts,O i,E1.st.gh,r,t0,fun a ha=>⟨(E1.out i a ha).1,(E1.out i a ha).2.2⟩, ?_⟩;cases ef:F (.obj c ns ts) ds with
 |ok d t'=>
  rw [ef] at q;exact fun v G' H' S' ms fr t1 rv=>q v G' H' _ (E1.step2 (Sl.mk_own lk t') (Sl.mk_lk lk t') (E1.mk_lt e1 etr t') ms s1 fr t1) (sg.trans ms.gg) rv
 |ex x t'=>
  rw [ef] at q;exact fun cls dx G' H' S' ms fr t1 ea=>⟨x,G',ms.gh,ea,q G' H' _ (E1.step2 (Sl.mk_own lk t') (Sl.mk_lk lk t') (E1.mk_lt e1 etr t') ms s1 fr t1) (sg.trans ms.gg)⟩
 |no=>rw [ef] at q;exact q
theorem bl_9{m:Str}:∀{ns:List Str} {us:List V},ns.contains m=false→(ns.zip us).lookup m=none
 | [],_,_=>rfl
 |_::_, [],_=>rfl
 |n::ns,u::us,h=>by
  rw [List.contains_cons,Bool.or_eq_false_iff] at h;rw [List.zip_cons_cons,List.lookup_cons,h.1];exact bl_9 h.2
theorem z_0{i:Nat}{y:Str}{F:Tn→List D→RR}{p3:Pos}(hr:RoomC c k' X.A)(lk:Lk X EX)(h:FnRd X.prog X.w X.K X.mg X.base c x k n ps F)(ha:AM X EX es ga)(hk:k≤k':=by decide)
  (hN:X.N[i]? =some y:=by rfl) (hv:Vis X.env.scope y:=by first|exact Or.inl rfl|exact Or.inr (Or.inl rfl)|exact Or.inr (Or.inr rfl)) (hd:(y ==("__debug__" :Str))=false:=by decide) (hcd:(y ==("__classdict__" :Str))=false:=by decide)
  (hg:Gl X x:=by rfl) (hdb:(x ==("__debug__" :Str))=false:=by decide) (hs1:starEach (.Name y p3::es) X.env=(false,eval (.Name y p3) X.env)::starEach es X.env:=by rfl) (hpl:(backTo pos (starEach es X.env)).any (·.1)=false:=by rfl):
  EM X EX (.Call (.Name x pp) (.Name y p3::es) [] pos) (k_2 i n F ga):=by
 obtain⟨f,fd,ok,hm,kp,hb⟩:=h;refine PE.imp (cm_6 hr lk ok hm kp hb (f_6 (j_7 hN hv hd hcd) ha hs1) hk hg hdb hs1 hpl) fun σ H Q ⟨H0,G0,G,Δ,O,E,q⟩=> ?_;unfold k_2 at q
 split at q
 ·rename_i c0 ns ts lk0 e0;obtain⟨s,e1,etr⟩:=Option.bind_eq_some_iff.mp e0;obtain⟨v0,s1,t0⟩:=E.ow i _ _ e1 (Sl.tree_own etr);cases t0 with
  |obj hc hh hl hA sub rl=>
   refine⟨_,s1,H0,G0,G,Δ,O,E, ?_⟩;cases ea:ga Δ with
   |ok ds=>
    simp only [ea] at q
    split at q
    ·rename_i zk;exact fun vs G1 H1 E1 sg r=>co_2 e1 etr s1 E1 sg r zk q
    ·exact q.elim
   |ex x=>simp only [ea] at q;exact fun G1 H1 E1 sg=>q G1 H1 O E1 sg
   |no=>simp only [ea] at q;exact q.elim
 ·exact q.elim
theorem w_2{i:Nat}{y m cn:Str}{F:Tn→List D→RR}{p3 zg:Pos}{pl:Sem Bool}(h:MethR X.prog X.w X.K X.mg X.base c k n m cn F)(hr:RoomC c k' X.A)(lk:Lk X EX)(ha:AM X EX (e::es) ga)(hk:k≤k':=by decide)
  (hN:X.N[i]? =some y:=by rfl) (hv:Vis X.env.scope y:=by first|exact Or.inl rfl|exact Or.inr (Or.inl rfl)|exact Or.inr (Or.inr rfl)) (hd:(y ==("__debug__" :Str))=false:=by decide) (hcd:(y ==("__classdict__" :Str))=false:=by decide)
  (hst:starEach (e::es) X.env=(false,eval e X.env)::starEach es X.env:=by rfl) (hpl:(backTo pos (starEach es X.env)).any (·.1)=false:=by rfl)
  (ht:eval (.Call (.Attribute (.Name y p3) m zg) (e::es) [] pos) X.env=(do
   let ov←eval (.Name y p3) X.env
   standAt zg.atName
   let(f,first)←holding [ov] (getMethod ov m pl)
   callWith pos f first (backTo pos (starEach (e::es) X.env)) (backToKw pos (keywordEach [] X.env))):=by rfl):EM X EX (.Call (.Attribute (.Name y p3) m zg) (e::es) [] pos) (m_0 i n m cn F ga):=by
 obtain⟨C,f,fd,ps,a1,a2,a3,a4,a5⟩:=h.ex;refine PE.imp (bx_9 (j_7 hN hv hd hcd) (hr.mono hk) lk ha hst hpl ht) fun σ H Q ⟨H0,G0,G,Δ,O,E,q⟩=> ?_;unfold m_0 at q
 split at q
 ·rename_i c0 ns ts lk0 e0;obtain⟨s,e1,etr⟩:=Option.bind_eq_some_iff.mp e0;obtain⟨v0,s1,t0⟩:=E.ow i _ _ e1 (Sl.tree_own etr)
  split at q
  ·rename_i hcn;cases t0 with
   |obj hc hh hl hA sub rl=>
    obtain⟨rfl,hnm⟩:=hcn;have:=a1.same hc;subst this;refine⟨_,s1,_,_,_,_,f,fd,ps,_,rfl,hh,bl_9 hnm,a2,a3,a4,a5,H0,G0,G,Δ,O,E, ?_⟩;cases ea:ga Δ with
    |ok ds=>
     simp only [ea] at q
     split at q
     ·rename_i zk;exact fun vs G1 H1 E1 sg r=>co_2 e1 etr s1 E1 sg r zk q
     ·exact q.elim
    |ex x=>simp only [ea] at q;exact fun G1 H1 E1 sg=>q G1 H1 O E1 sg
    |no=>simp only [ea] at q;exact q.elim
  ·exact q.elim
 ·exact q.elim
end
def repF:List Str→List Tn→Str→Tn→List Tn
 |n::ns,t::ts,f,t'=>if n=f then t'::ts else t::repF ns ts f t'
 |_,ts,_,_=>ts
def repV:List Str→List V→Str→V→List V
 |n::ns,t::ts,f,t'=>if n=f then t'::ts else t::repV ns ts f t'
 |_,ts,_,_=>ts
section
variable{K:Frag}{G H:Hp}
theorem OwL.focusF(f:Str):∀{ns:List Str} {us:List V} {ts:List Tn} {S:AS} {t:Tn},OwL K G H us ts S→(ns.zip ts).lookup f=some t→
  ∃v S1,(ns.zip us).lookup f=some v∧Ow K G H v t S1∧(∀b,S1 b→S b)∧
   ∀{H':Hp} {t':Tn},(∀b o,S b→¬S1 b→H b=some o→H' b=some o)→Ow K G H' v t' S1→OwL K G H' us (repF ns ts f t') S
 | [],_,_,_,_,_,e=>by cases e
 |_::_, [],_,_,_, .nil,e=>by cases e
 |n::ns,u::us,_,S,t, .cons (S1:=S1) (S2:=S2) (t:=t0) (ts:=ts) hh r dj s1 s2,e=>by
  rw [List.zip_cons_cons,List.lookup_cons] at e
  by_cases q:n=f
  ·subst q;simp only [beq_self_eq_true] at e;cases e;refine⟨u,S1,by rw [List.zip_cons_cons,List.lookup_cons,beq_self_eq_true],hh,s1,fun{H' t'} g h'=> ?_⟩;unfold repF;rw [if_pos rfl];exact .cons h' (r.mono (Same.refl _) (fun b o hb z=>g b o (s2 b hb) (fun w=>dj b w hb) z) fun _ z=>z) dj s1 s2
  ·have hb:(f ==n)=false:=beq_eq_false_iff_ne.mpr (Ne.symm q);simp only [hb] at e;obtain⟨v',S',e1,h',i',f'⟩:=OwL.focusF f r e;refine⟨v',S',by rw [List.zip_cons_cons,List.lookup_cons,hb];exact e1,h',fun b z=>s2 b (i' b z),fun{H' t'} g h2=> ?_⟩;unfold repF;rw [if_neg q];exact .cons (hh.mono (Same.refl _) (fun b o hb z=>g b o (s1 b hb) (fun w=>dj b hb (i' b w)) z) fun _ z=>z) (f' (fun b o hb nb z=>g b o (s2 b hb) nb z) h2) dj s1 s2
theorem OwL.repF{d:D}(hv:Has K G v d)(f:Str):∀{ns:List Str} {us:List V} {ts:List Tn} {S:AS},OwL K G H us ts S→OwL K G H (repV ns us f v) (L3.repF ns ts f (.sh d)) S
 | [],us,ts,S,r=>by
  have h1:repV [] us f v=us:=by cases us <;> rfl
  have h2:L3.repF [] ts f (.sh d)=ts:=by cases ts <;> rfl
  rw [h1,h2];exact r
 |_::_,_,_,_, .nil=> .nil
 |n::ns,u::us,_,S, .cons (S1:=S1) (S2:=S2) hh r dj s1 s2=>by
  unfold repV L3.repF
  by_cases q:n=f
  ·rw [if_pos q,if_pos q];exact .cons (S1:=fun _=>False) (.sh hv) r (fun _ z _=>z) (fun _ z=>z.elim) s2
  ·rw [if_neg q,if_neg q];exact .cons hh (OwL.repF hv f r) dj s1 s2
theorem bm_1(f:Str)(v:V):∀(ns:List Str) (us:List V),(repV ns us f v).length=us.length
 | [],us=>by cases us <;> rfl
 |_::_, []=>rfl
 |n::ns,u::us=>by
  unfold repV
  split
  ·rfl
  ·rw [List.length_cons,List.length_cons,bm_1 f v ns us]
theorem bm_2{f:Str}{y:V}:∀{ns:List Str} {us:List V},ns.length=us.length→ns.contains f=true→s_6 f y (ns.zip us)=ns.zip (repV ns us f y)
 | [], [],_,h=>by cases h
 | [],_::_,e,_=>by simp at e
 |_::_, [],e,_=>by simp at e
 |n::ns,u::us,e,h=>by
  show s_6 f y ((n,u)::ns.zip us)=_;unfold s_6 repV
  by_cases q:n=f
  ·rw [if_pos q,if_pos q];simp only [q,List.zip_cons_cons]
  ·rw [if_neg q,if_neg q,List.zip_cons_cons,bm_2 (by simpa using e)];rw [List.contains_cons,Bool.or_eq_true] at h;rcases h with h|h
   ·exact absurd (beq_iff_eq.mp h).symm q
   ·exact h
theorem Ow.obj_of{c:Str}{ns:List Str}{ts:List Tn}{S:AS}(t:Ow K G H v (.obj c ns ts) S):∃a C dx us S1,v= .ref a∧ClsAt K c C∧H a=some (.ins C dx (ns.zip us))∧ns.length=us.length∧S a∧(∀b,S1 b→S b∧b≠a)∧OwL K G H us ts S1:=by
 cases t with
 |obj hc h hl ha sub r=>exact⟨_,_,_,_,_,rfl,hc,h,hl,ha,sub,r⟩
end
def ay_9(i:Nat)(cs:List Str)(f:Str)(fk fe:FE):FS:=fun Δ=>match(Δ[i]?).bind Sl.tree with
 |some (.obj c ns ts,lk)=>if cs.contains c=true then(match(ns.zip ts).lookup f with
  |some (.dic kt2)=>(match unS kt2 with
   |some kds=>(match fe (vsh Δ) with
    | .ok w=>(match fk (vsh Δ) with
     | .ok z=>(match q_4 z.d with
      |some k=>if kds.length < 16777216 then .nx (Δ.set i (Sl.mk lk (.obj c ns (repF ns ts f (Tn.of (.dic (o_2 kds k w.d))))))) else .no
      |none=> .no)
     |_=> .no)
    |_=> .no)
   |none=> .no)
  |_=> .no) else .no
 |_=> .no
def bm_3(i:Nat)(cs:List Str)(f:Str)(fk:FE):FS:=fun Δ=>match(Δ[i]?).bind Sl.tree with
 |some (.obj c ns ts,lk)=>if cs.contains c=true then(match(ns.zip ts).lookup f with
  |some (.dic kt2)=>(match unS kt2 with
   |some kds=>(match fk (vsh Δ) with
    | .ok z=>(match q_4 z.d with
     |some k=>if(f_0 kds k).isSome=true then .nx (Δ.set i (Sl.mk lk (.obj c ns (repF ns ts f (Tn.of (.dic (n_2 kds k))))))) else .no
     |none=> .no)
    |_=> .no)
   |none=> .no)
  |_=> .no) else .no
 |_=> .no
def bm_4(i:Nat)(cs:List Str)(f:Str)(js:List Nat)(fe:FE):FS:=fun Δ=>match((gsome js Δ)[i]?).bind Sl.tree with
 |some (.obj c ns ts,lk)=>if cs.contains c=true∧ns.contains f=true∧ns.length < 1000 then(match fe (vsh (gsome js Δ)) with
  | .ok w=> .nx ((gsome js Δ).set i (Sl.mk lk (.obj c ns (repF ns ts f (.sh w.d)))))
  |_=> .no) else .no
 |_=> .no
section
variable{X:Cx}{EX:EXS}{pos:Pos}{i:Nat}{cs:List Str}{f x:Str}
theorem cy_3{e e2:Expr}{fe fk:FE}{p1 p2 zh:Pos}(hu:X.A.units + 64 < cLine)(k:OFld X.K cs f)(he:ED X EX e fe)(h2:ED X EX e2 fk)(hN:X.N[i]? =some x:=by rfl)(hv:Vis X.env.scope x:=by first|exact Or.inl rfl|exact Or.inr (Or.inl rfl)|exact Or.inr (Or.inr rfl))(hd:(x ==("__debug__" :Str))=false:=by decide)
  (hcd:(x ==("__classdict__" :Str))=false:=by decide) (hb:attributeBase (.Name x p1) f X.env (eval (.Name x p1) X.env)=eval (.Name x p1) X.env:=by rfl) (hs:swapsWith e (some (.Subscript (.Attribute (.Name x p1) f p2) e2 zh)) pos.line X.env=pure false:=by rfl):
  SD X EX (.Assign [.Subscript (.Attribute (.Name x p1) f p2) e2 zh] e pos) (ay_9 i cs f fk fe):=
 PS.imp (bx_0 (by omega) (bq_0 (j_7 hN hv hd hcd) hb) h2 he hs) fun D σ H ⟨H0,G0,G,Δ,O,E,q⟩=>by
  unfold ay_9 at q
  split at q
  ·rename_i c ns ts lk e0;obtain⟨s,e1,etr⟩:=Option.bind_eq_some_iff.mp e0
   split at q
   ·rename_i hcs
    split at q
    ·rename_i kt2 ef
     split at q
     ·rename_i kds eu;refine⟨G,vsh Δ,E.st.gh,E.gsh, ?_⟩;cases e2:fe (vsh Δ) with
      |ex x=>simp only [e2] at q;exact q.elim
      |no=>simp only [e2] at q;exact q.elim
      |ok w=>
       simp only [e2] at q;refine WP.intro fun v G1 H1 st r=> ?_;have E1:=E.grow st;obtain⟨v0,s1,t⟩:=E1.ow i _ _ e1 (Sl.tree_own etr);obtain⟨a,C,dx,us,S1,rfl,hC,hH,hl,ha,sub,rl⟩:=t.obj_of;obtain⟨kc,kn⟩:=k _ hcs _ hC;obtain⟨vd,Sd,ed,td,idd,fc⟩:=OwL.focusF f (ns:=ns) rl ef;refine⟨_,s1,a,C,dx,_,vd,rfl,hH,kc,kn,ed, ?_⟩;refine⟨G1,vsh Δ,E1.st.gh,E1.gsh, ?_⟩;cases e3:fk (vsh Δ) with
       |ex x=>simp only [e3] at q;exact q.elim
       |no=>simp only [e3] at q;exact q.elim
       |ok z=>
        simp only [e3] at q;refine WP.intro fun v2 G2 H2 st2 r2=> ?_
        split at q
        ·rename_i k0 ek
         split at q
         ·rename_i zk;have hv2:=t_8 r2 ek;subst hv2;rw [aq_8 eu] at td;obtain⟨c1,kvc,rfl,mc,hHc,hkc,rlc⟩:=Ow.dict_of (kds:=kds) td;have E2:=E1.grow st2;have hle:kvc.length=kds.length:=by
           have:=congrArg List.length hkc
           rwa [List.length_map,List.length_map] at this
          obtain⟨p1,p2⟩:=bx_5 k0 hkc rlc r;have hca:c1≠a:=(sub c1 (idd c1 mc)).2;refine⟨c1,_,rfl,DPut.k (st2.hh _ _ hHc) (by rw [hle,sizeLine_eq];exact zk),q σ G2 _ _ (E2.writeIn e1 etr s1 (sub c1 (idd c1 mc)).1 ?_) (st.gg.trans st2.gg)⟩;refine Ow.obj (S1:=S1) hC (by rw [a_5 (Ne.symm hca)];exact st2.hh _ _ hH) hl ha sub ?_;refine OwL.mono st2.gg (fc (fun b o hb nb z=> ?_) (Ow.dict a_9 p1 mc p2)) (fun _ _ _ z=>z) fun _ z=>z;rw [a_5 (show b≠c1 from fun w=>nb (by rw [w];exact mc))];exact st2.hh _ _ z
         ·exact q.elim
        ·exact q.elim
     ·exact q.elim
    ·exact q.elim
   ·exact q.elim
  ·exact q.elim
theorem cy_4{e2:Expr}{fk:FE}{p1 p2 zg zf:Pos}(k:OFld X.K cs f)(h2:ED X EX e2 fk)(hN:X.N[i]? =some x:=by rfl)(hv:Vis X.env.scope x:=by first|exact Or.inl rfl|exact Or.inr (Or.inl rfl)|exact Or.inr (Or.inr rfl))(hd:(x ==("__debug__" :Str))=false:=by decide)
  (hcd:(x ==("__classdict__" :Str))=false:=by decide) (hb:attributeBase (.Name x p1) f X.env (eval (.Name x p1) X.env)=eval (.Name x p1) X.env:=by rfl) (hm:M1 X (.Attribute (.Name x p1) f p2) "pop" zg e2 zf:=by exact⟨rfl,rfl,rfl,rfl⟩)
  (hs:swapsWith (.Call (.Attribute (.Attribute (.Name x p1) f p2) "pop" zg) [e2] [] zf) none pos.line X.env=pure false:=by rfl):
  SD X EX (.Expr (.Call (.Attribute (.Attribute (.Name x p1) f p2) "pop" zg) [e2] [] zf) pos) (bm_3 i cs f fk):=
 PS.imp (z_9 (bh_8 (bq_0 (j_7 hN hv hd hcd) hb) h2 hm) hs) fun D σ H ⟨H0,G0,G,Δ,O,E,q⟩=>by
  unfold bm_3 at q
  split at q
  ·rename_i c ns ts lk e0;obtain⟨s,e1,etr⟩:=Option.bind_eq_some_iff.mp e0
   split at q
   ·rename_i hcs
    split at q
    ·rename_i kt2 ef
     split at q
     ·rename_i kds eu;obtain⟨v0,s1,t⟩:=E.ow i _ _ e1 (Sl.tree_own etr);obtain⟨a,C,dx,us,S1,rfl,hC,hH,hl,ha,sub,rl⟩:=t.obj_of;obtain⟨kc,kn⟩:=k _ hcs _ hC;obtain⟨vd,Sd,ed,td,idd,fc⟩:=OwL.focusF f (ns:=ns) rl ef;rw [aq_8 eu] at td;obtain⟨c1,kvc,rfl,mc,hHc,hkc,rlc⟩:=Ow.dict_of (kds:=kds) td;refine⟨_,s1,a,C,dx,_,_,rfl,hH,kc,kn,ed,c1,rfl, .inl ⟨kvc, .inl hHc⟩, ?_⟩;refine⟨G,vsh Δ,E.st.gh,E.gsh, ?_⟩;cases e3:fk (vsh Δ) with
      |ex x=>simp only [e3] at q;exact q.elim
      |no=>simp only [e3] at q;exact q.elim
      |ok z=>
       simp only [e3] at q;refine WP.intro fun v2 G2 H2 st2 r2=> ?_
       split at q
       ·rename_i k0 ek
        split at q
        ·rename_i hin;have hv2:=t_8 r2 ek;subst hv2;have E2:=E.grow st2;obtain⟨d0,ed0⟩:=Option.isSome_iff_exists.mp hin;obtain⟨vv,ev,_⟩:=(w_0 k0 hkc rlc).2 d0 ed0;obtain⟨p1,p2⟩:=aq_9 k0 hkc rlc;have hca:c1≠a:=(sub c1 (idd c1 mc)).2;refine⟨kvc,k0,vv,st2.hh _ _ hHc,rfl,ev,q σ G2 _ _ (E2.writeIn e1 etr s1 (sub c1 (idd c1 mc)).1 ?_) st2.gg⟩;refine Ow.obj (S1:=S1) hC (by rw [a_5 (Ne.symm hca)];exact st2.hh _ _ hH) hl ha sub ?_;refine OwL.mono st2.gg (fc (fun b o hb nb z=> ?_) (Ow.dict a_9 p1 mc p2)) (fun _ _ _ z=>z) fun _ z=>z;rw [a_5 (show b≠c1 from fun w=>nb (by rw [w];exact mc))];exact st2.hh _ _ z
        ·exact q.elim
       ·exact q.elim
     ·exact q.elim
    ·exact q.elim
   ·exact q.elim
  ·exact q.elim
theorem cy_5(js:List Nat){e:Expr}{fe:FE}{p1 p2:Pos}(k:OFld X.K cs f)(he:ED X EX e fe)(hN:X.N[i]? =some x:=by rfl)(hv:Vis X.env.scope x:=by first|exact Or.inl rfl|exact Or.inr (Or.inl rfl)|exact Or.inr (Or.inr rfl))(hd:(x ==("__debug__" :Str))=false:=by decide)
  (hcd:(x ==("__classdict__" :Str))=false:=by decide) (hs:swapsWith e (some (.Attribute (.Name x p1) f p2)) pos.line X.env=pure false:=by rfl):SD X EX (.Assign [.Attribute (.Name x p1) f p2] e pos) (bm_4 i cs f js fe):=
 PS.imp (bq_1 (j_7 hN hv hd hcd) he hs) fun D σ H ⟨H0,G0,G,Δ,O,E,q⟩=>by
  obtain⟨G1,O1,sg,E1⟩:=E.gsome js;unfold bm_4 at q;generalize gsome js Δ=Δ1 at q E1
  split at q
  ·rename_i c ns ts lk e0;obtain⟨s,e1,etr⟩:=Option.bind_eq_some_iff.mp e0
   split at q
   ·rename_i hc;obtain⟨hc1,hc2,hc3⟩:=hc;refine⟨G1,vsh Δ1,E1.st.gh,E1.gsh, ?_⟩;cases e2:fe (vsh Δ1) with
    |ex y=>simp only [e2] at q;exact q.elim
    |no=>simp only [e2] at q;exact q.elim
    |ok w=>
     simp only [e2] at q;refine WP.intro fun v G2 H2 st r=> ?_;have E2:=E1.grow st;obtain⟨v0,s1,t⟩:=E2.ow i _ _ e1 (Sl.tree_own etr);obtain⟨a,C,dx,us,S1,rfl,hC,hH,hl,ha,sub,rl⟩:=t.obj_of;obtain⟨kc,kn⟩:=k _ hc1 _ hC;refine⟨_,s1,a,C,dx,_,rfl,hH,kc,kn,by rw [List.length_zip,←hl,Nat.min_self];exact hc3, ?_⟩;rw [bm_2 hl hc2];refine q σ G2 _ _ (E2.writeIn e1 etr s1 ha ?_) (sg.trans st.gg);refine .obj (S1:=S1) hC a_9 (by rw [bm_1];exact hl) ha sub ?_;refine OwL.mono (Same.refl _) (OwL.repF r f rl) (fun b o hb z=> ?_) fun _ z=>z;rw [a_5 (sub b hb).2];exact z
   ·exact q.elim
  ·exact q.elim
end
def z_1(n:Nat)(c:Str)(g:FS)(ds:List D):R (List Str×List Tn):=match g (ar_0 n c ds) with
 | .nx (.lt (.obj c' ns ts)::_)=>if c'=c then .ok (ns,ts) else .no
 | .ex x _=> .ex x
 |_=> .no
def spJ(K:Frag)(C:Addr)(cn:Str)(n:Nat)(F:List D→R (List Str×List Tn)):Sp:=fun vs H Q E=>∃x dx vs0 Hq G ds,vs= .ref x::vs0∧vs0.length=n∧Hq x=none∧Same Hq H∧H x=some (.ins C dx [])∧Same G Hq∧HasL K G vs0 ds∧
 (match F ds with
 | .ok p=>∀G' H' S,Step G Hq G' H'→(∀a,S a→Hq a=none∧G' a=none∧H' a≠none)→Ow K G' H' (.ref x) (.obj cn p.1 p.2) S→Q .non H'
 | .ex e=>(EXof K E).p e G Hq
 | .no=>False)
theorem fn_J{c:Bool}{P:Program}{w:World}{x qual cn:Str}{st:Stmt}{f C:Addr}{N ps:List Str}{k n:Nat}{g:FS}(F:Fun K x qual st f fd)(S:FnScope N ps (b_5 st))(hC:ClsAt K cn C)(hn:ps.length=n + 1)(hle:ps.length≤N.length)
  (zj:∀(zp:Value) (A:Around) (outer:List Env) (s:Shared) (H:Hp) (E:XK),RoomC c k (A.deeper (envOfC qual (b_5 st) s.heap.objs.size f zp))→
   BD (cxN c P w K mg base N qual (b_5 st) f zp A outer s H E) (fun _=>EXof K E) (f_4 st) g):FnX P w K mg base c (k + 1) f fd ps (spJ K C cn n (z_1 N.length cn g)):=by
 refine Fun.okX F S (fun vs H Q E h=> ?_) fun zp A outer s H vs Q E hr h=>⟨_,zj zp A outer s H E hr, ?_⟩
 ·obtain⟨x,dx,vs0,Hq,G,ds,rfl,hl,_⟩:=h;rw [List.length_cons,hl,hn]
 obtain⟨x,dx,vs0,Hq,G,ds,rfl,hl,n1,i0,hx,g0,r,q⟩:=h;have E0:=ay_2 (N:=N) (b:=fun _=>x) (v0:= .ref x) (g0.trans i0) i0 r (by rw [hl];omega);have hs:(p_4 N (.ref x::vs0))[0]? =some (some (.ref x)):=rfl;have E1:=E0.putO (i:=0) (z:= .lt (.obj cn [] [])) (v:= .ref x) (S:=fun b=>b=x) (fun a ha=>by subst ha;exact⟨n1,g0.free n1,by rw [hx];simp⟩) rfl (fun _ z=>by cases z) (.obj (S1:=fun _=>False) hC (us:= []) hx rfl rfl (fun _ z=>z.elim) .nil) (fun j a ha=>ha.elim) (fun _ _=>rfl);rw [u_5 hs] at E1;refine⟨⟨Hq,fun _=>x⟩,G,G,_,_,E1, ?_⟩;have e2:(Sl.no::(ds.map Sl.sh ++ List.replicate (N.length - (ds.length + 1)) .no)).set 0 (.lt (.obj cn [] []))=ar_0 N.length cn ds:=rfl;rw [e2];have nxt:∀{Δ:SE},g (ar_0 N.length cn ds)= .nx Δ→Fin K (fun _=>EXof K E) ⟨Hq,fun _=>x⟩ G G {nx:=fun _ H'=>Q .non H',rt:=Q} (.nx Δ):=fun{Δ} e=>by
  unfold z_1 at q;rw [e] at q;cases Δ with
  |nil=>exact q.elim
  |cons s Δ=>
   cases s with
   |lt t=>
    cases t with
    |obj c' ns ts=>
     simp only at q
     by_cases hcc:c'=cn
     ·subst hcc;rw [if_pos rfl] at q;intro σ G' H' O E' _;obtain⟨v,s1,t3⟩:=E'.ow 0 _ _ rfl rfl;have s2:=E'.lt 0 _ rfl;rw [s1] at s2;cases s2;exact q G' H' (O 0) E'.st (fun a ha=>⟨(E'.out 0 a ha).2.1,(E'.out 0 a ha).1,(E'.out 0 a ha).2.2⟩) t3
     ·rw [if_neg hcc] at q;exact q.elim
    |_=>exact q.elim
   |_=>exact q.elim
 cases e:g (ar_0 N.length cn ds) with
 |nx Δ=>exact nxt e
 |ex x Δ=>unfold z_1 at q;rw [e] at q;exact fun σ G' H' O E' _=>(EXof K E).mono _ _ _ _ _ E'.st q
 |rt w=>unfold z_1 at q;rw [e] at q;exact q.elim
 |rv d Δ=>unfold z_1 at q;rw [e] at q;exact q.elim
 |bk Δ=>unfold z_1 at q;rw [e] at q;exact q.elim
 |ct Δ=>unfold z_1 at q;rw [e] at q;exact q.elim
 |no=>unfold z_1 at q;rw [e] at q;exact q.elim
def bm_5(i:Nat)(cs:List Str)(f:Str)(fe:FE):FS:=fun Δ=>match Δ[i]? with
 |some (.lt (.obj c ns ts))=>if cs.contains c=true∧ns.contains f=false∧ns.length < 1000 then(match fe (vsh Δ) with
  | .ok (.ow d)=> .nx (Δ.set i (.lt (.obj c (ns ++ [f]) (ts ++ [Tn.of d]))))
  |_=> .no) else .no
 |_=> .no
def MakJ(P:Program)(w:World)(K:Frag)(mg:Str→Option Value)(base:Heap)(cc:Bool)(c:Str)(k n:Nat)(F:List D→R (List Str×List Tn)):Prop:=
 ∃C f fd ps,ClsAt K c C∧mg c=some (.ref C)∧Mk K C f∧FnX P w K mg base cc k f fd ps (spJ K C c n F)∧Binds K fd ps []
def co_3(c:Str)(n:Nat)(F:List D→R (List Str×List Tn))(fa:FA):FE:=fun δ=>(fa δ).bind fun ds=>if ds.length=n then(F ds).bind fun p=> .ok (.tr (.obj c p.1 p.2)) else .no
section
variable{X:Cx}{EX:EXS}{e:Expr}{es:List Expr}{x:Str}{pp pos:Pos}{cc:Bool}{k k' n:Nat}
theorem cy_7{i:Nat}{cs:List Str}{f x:Str}{e:Expr}{fe:FE}{p1 p2:Pos}(k:OFld X.K cs f)(he:ED X EX e fe)(hN:X.N[i]? =some x:=by rfl)(hv:Vis X.env.scope x:=by first|exact Or.inl rfl|exact Or.inr (Or.inl rfl)|exact Or.inr (Or.inr rfl))(hd:(x ==("__debug__" :Str))=false:=by decide)
  (hcd:(x ==("__classdict__" :Str))=false:=by decide) (hs:swapsWith e (some (.Attribute (.Name x p1) f p2)) pos.line X.env=pure false:=by rfl):SD X EX (.Assign [.Attribute (.Name x p1) f p2] e pos) (bm_5 i cs f fe):=
 PS.imp (bq_1 (j_7 hN hv hd hcd) he hs) fun D σ H ⟨H0,G0,G,Δ,O,E,q⟩=>by
  unfold bm_5 at q
  split at q
  ·rename_i c ns ts e1
   split at q
   ·rename_i hc;obtain⟨hc1,hc2,hc3⟩:=hc;refine⟨G,vsh Δ,E.st.gh,E.gsh, ?_⟩;cases e2:fe (vsh Δ) with
    |ex y=>simp only [e2] at q;exact q.elim
    |no=>simp only [e2] at q;exact q.elim
    |ok w=>
     simp only [e2] at q;cases w with
     |sh d=>exact q.elim
     |tr t=>exact q.elim
     |ow d=>
      intro v S2 G2 H2 st fr tw;have E2:=E.grow st;obtain⟨v0,s1,t⟩:=E2.ow i _ _ e1 rfl;obtain⟨a,C,dx,us,S1,rfl,hC,hH,hl,ha,sub,rl⟩:=t.obj_of;have s2:=E2.lt i _ e1;obtain⟨kc,kn⟩:=k _ hc1 _ hC;refine⟨_,s1,a,C,dx,_,rfl,hH,kc,kn,by rw [List.length_zip,←hl,Nat.min_self];exact hc3, ?_⟩;rw [ar_1 hl hc2];have hna:∀b,S2 b→b≠a:=fun b hb z=>(E.out i a ha).2.2 (by rw [←z];exact(fr b hb).1);have nO:∀b,S2 b→∀j,¬O j b:=fun b hb j hj=>(E.out j b hj).2.2 (fr b hb).1;have np:∀b,b≠a→upd H2 a (.ins C dx ((ns ++ [f]).zip (us ++ [v]))) b=H2 b:=fun b hb=>a_5 hb;have al:∀b,H2 b≠none→upd H2 a (.ins C dx ((ns ++ [f]).zip (us ++ [v]))) b≠none:=fun b hb=>by
       by_cases z:b=a
       ·subst z;rw [a_9];simp
       ·rw [np b z];exact hb
      have gh:Same G2 (upd H2 a (.ins C dx ((ns ++ [f]).zip (us ++ [v])))):=fun b o z=>by
       have nb:b≠a:=fun w=>by rw [w,(E2.out i a ha).1] at z;cases z
       rw [np b nb];exact st.gh b o z
      have s0:σ[i]? =some (some (.ref a)):=s1;refine q σ G2 _ _ (E.step2 (S:=fun b=>O i b∨S2 b) (z:= .lt _) rfl (fun _ z=>by cases z) (fun _ _=>by rw [s1] at s2⊢;exact s2) ⟨fun b o nb z=>by rw [np b fun w=>nb (by rw [w];exact ha)];exact st.hh b o z,gh,st.gg,fun b _ z1 z2=>st.nw b z1 z2⟩ s0 (fun b hb=> ?_) ?_) st.gg
      ·rcases hb with hb|hb
       ·exact⟨.inl hb,(E2.out i b hb).1,al b (E2.out i b hb).2.2⟩
       ·exact⟨.inr (fr b hb).1,(fr b hb).2.1,al b (fr b hb).2.2⟩
      ·refine .obj (S1:=fun b=>S1 b∨S2 b) hC a_9 (by rw [List.length_append,List.length_append,hl];rfl) (.inl ha) (fun b hb=> ?_) ?_
       ·rcases hb with hb|hb
        ·exact⟨.inl (sub b hb).1,(sub b hb).2⟩
        ·exact⟨.inr hb,hna b hb⟩
       ·refine OwL.append (S1:=S1) (S2:=S2) (rl.mono (Same.refl _) (fun b o hb z=>by rw [np b (sub b hb).2];exact z) fun _ z=>z) (.cons (S1:=S2) (S2:=fun _=>False) (tw.mono (Same.refl _) (fun b o hb z=>by rw [np b (hna b hb)];exact z) fun _ z=>z) .nil (fun _ _ z=>z) (fun _ z=>z) fun _ z=>z.elim) (fun b z1 z2=>nO b z2 i (sub b z1).1) (fun _ z=> .inl z) fun _ z=> .inr z
   ·exact q.elim
  ·exact q.elim
theorem cy_8{F:List D→R (List Str×List Tn)}{fa:FA}(hr:RoomC cc k' X.A)(lk:Lk X EX)(h:MakJ X.prog X.w X.K X.mg X.base cc x k n F)(ha:AD X EX (e::es) fa)(hk:k + 1≤k':=by decide)(hg:Gl X x:=by rfl)(hdb:(x ==("__debug__" :Str))=false:=by decide)
  (he:starEach (e::es) X.env=(false,eval e X.env)::starEach es X.env:=by rfl) (hpl:(backTo pos (starEach es X.env)).any (·.1)=false:=by rfl):ED X EX (.Call (.Name x pp) (e::es) [] pos) (co_3 x n F fa):=by
 obtain⟨C,f,fd,ps,hC,hm,M,ok,hb⟩:=h;intro zd s σ H Q I q;obtain⟨G,δ,g0,s0,o⟩:=q;refine wpAny_Call_Name_kw (q_8 I hg hm ?_ hdb);have ta:tDa X.K EX fa σ H fun vs H1=>∃G1 ds,Same G1 H1∧HasL X.K G1 vs ds∧ds.length=n∧Out X.K (EX σ) G1 H1 ((F ds).bind fun p=> .ok (.tr (.obj x p.1 p.2))) Q:=by
  refine tDa.seq g0 s0 o fun ds vs G' H' _ st r o'=> ?_
  split at o'
  ·rename_i hl;exact⟨G',ds,st.gh,r,hl,o'⟩
  ·exact o'.elim
 refine callWith_K (h₀:=X.base) I.ok.mod.kin M.kp (thn (ha pos zd s σ H _ I ta) fun us s1 ⟨vs,H1,I1,r,G1,ds,sg,rl,hl,o'⟩=>⟨I1.kIn, ?_⟩) he hpl;refine ce_6 M ok (hr.mono hk) hb lk I1 r fun y dy ny ndy ne=> ?_;refine⟨y,dy,vs,H1,G1,ds,rfl,by rw [rl.length];exact hl,ny,(fun b o e=>by rw [a_5 (b_9 e ny),a_5 (b_9 e ndy)];exact e),a_9,sg,rl, ?_⟩;cases ef:F ds with
 |ok p=>
  rw [ef] at o';intro G' H' S st fr tw;exact⟨rfl,o' (.ref y) S G' H' st fr tw⟩
 |ex z=>rw [ef] at o';exact EXof.in o'
 |no=>rw [ef] at o';exact o'
end
def h_6(js:List Nat)(f:FE):SE→FM:=fun Δ=>match f (vsh (gsome js Δ)) with
 | .ok w=> .ok w.d (gsome js Δ)
 | .ex x=> .ex x (gsome js Δ)
 | .no=> .no
def d_5(js:List Nat)(g:SE→FM):SE→FM:=fun Δ=>g (gsome js Δ)
def a_8(f:FE)(ga:SE→R (List D)):SE→R (List D):=fun Δ=>match f (vsh Δ) with
 | .ok w=>(match ga Δ with
  | .ok ds=> .ok (w.d::ds)
  | .ex x=> .ex x
  | .no=> .no)
 | .ex x=> .ex x
 | .no=> .no
def bm_6(fg:FG)(g:SE→FM):FS:=fun Δ=>match g Δ with
 | .ok d Δ1=>(match fg d Δ1 with
  | .ok Δ2=> .nx Δ2
  |_=> .no)
 | .ex x Δ1=> .ex x Δ1
 | .no=> .no
def bm_7(g:SE→FM)(fg:FG)(gb:FS):FS:=fun Δ=>match g Δ with
 | .ok d Δ1=>(match dh_3 d with
  | .ok ds=>l_2 fg gb ds Δ1
  |_=> .no)
 | .ex x Δ1=> .ex x Δ1
 | .no=> .no
def bz_4(i:Nat)(fk:FE):FS:=fun Δ=>match Δ[i]? with
 |some (.ow (.dic kds))=>(match fk (vsh Δ) with
  | .ok z=>(match q_4 z.d with
   |some k=>if(f_0 kds k).isSome=true then .nx (Δ.set i (.ow (.dic (n_2 kds k)))) else .no
   |none=> .no)
  |_=> .no)
 |_=> .no
section
variable{X:Cx}{EX:EXS}{e:Expr}{es:List Expr}{f:FE}{g:SE→FM}{ga:SE→R (List D)}{pos:Pos}
theorem m_5(js:List Nat)(he:ED X EX e f):EM X EX e (h_6 js f):=PE.imp he fun σ H Q ⟨H0,G0,G,Δ,O,E,q⟩=>by
 obtain⟨G1,O1,sg,E1⟩:=E.gsome js;unfold h_6 at q;refine⟨G1,vsh (gsome js Δ),E1.st.gh,E1.gsh, ?_⟩;cases e1:f (vsh (gsome js Δ)) with
 |ok w=>simp only [e1] at q;exact WP.intro fun v G' H' st r=>q v G' H' O1 (E1.grow st) (sg.trans st.gg) r
 |ex x=>simp only [e1] at q;exact q G1 H O1 E1 sg
 |no=>simp only [e1] at q;exact q.elim
theorem k_6(js:List Nat)(he:EM X EX e g):EM X EX e (d_5 js g):=PE.imp he fun σ H Q ⟨H0,G0,G,Δ,O,E,q⟩=>by
 obtain⟨G1,O1,sg,E1⟩:=E.gsome js;exact⟨H0,G0,G1,gsome js Δ,O1,E1,OutM.mono sg q⟩
theorem c_5(ha:ED X EX e f)(hr:AM X EX es ga)(hs:starEach (e::es) X.env=(false,eval e X.env)::starEach es X.env:=by rfl):AM X EX (e::es) (a_8 f ga):=
 PA.imp (f_6 ha hr hs) fun σ H Q ⟨H0,G0,G,Δ,O,E,q⟩=>by
  unfold a_8 at q;refine⟨G,vsh Δ,E.st.gh,E.gsh, ?_⟩;cases e1:f (vsh Δ) with
  |ok w=>
   simp only [e1] at q;refine WP.intro fun v G1 H1 st r=>⟨H0,G0,G1,Δ,O,E.grow st, ?_⟩;cases e2:ga Δ with
   |ok ds=>simp only [e2] at q;exact fun vs G2 H2 E2 s2 r2=>q (v::vs) G2 H2 E2 (st.gg.trans s2) (.cons (r.mono s2) r2)
   |ex x=>simp only [e2] at q;exact fun G2 H2 E2 s2=>q G2 H2 E2 (st.gg.trans s2)
   |no=>simp only [e2] at q
  |ex x=>simp only [e1] at q;exact q G H E (Same.refl _)
  |no=>simp only [e1] at q
theorem cy_9{fg:FG}{tg:Expr}(he:EM X EX e g)(hg:GD X EX tg fg)(hs:swapsWithSole [tg] e pos.line X.env=pure false:=by rfl)(hw:swappedStores [tg] e X.env=pure none:=by rfl)
  (h1:(assignEach [tg] X.env).map (·.2)= [assign tg X.env]:=by rfl):SD X EX (.Assign [tg] e pos) (bm_6 fg g):=
 PS.imp (de_1 he hg hs hw h1) fun D σ H ⟨H0,G0,G,Δ,O,E,q⟩=>by
  refine⟨H0,G0,G,Δ,O,E, ?_⟩;unfold bm_6 at q;cases e1:g Δ with
  |ok d Δ1=>
   simp only [e1] at q;intro v G1 H1 O1 E1 s1 r1;refine⟨H0,G0,G1,Δ1,O1,d,E1,r1, ?_⟩;cases e2:fg d Δ1 with
   |ok Δ2=>simp only [e2] at q;exact fun σ' G2 H2 O2 E2 s2=>q σ' G2 H2 O2 E2 (s1.trans s2)
   |ex x=>simp only [e2] at q;exact q.elim
   |no=>simp only [e2] at q;exact q.elim
  |ex x Δ1=>simp only [e1] at q;exact fun G1 H1 O1 E1 s1=>q σ G1 H1 O1 E1 s1
  |no=>simp only [e1] at q;exact q.elim
theorem cz_0{elts:List Expr}{x1:Nat}{tp p p2:Pos}{a:Expr}{body:List Stmt}{fg:FG}{gb:FS}(hp:PassesOwn (model X.prog X.w) X.A X.env X.xe)(hc:X.calm=true)(hm:X.mg "enumerate" =none)(he:EM X EX a g)(hg:GD X EX (.Tuple elts x1 tp) fg)(hb:BD X EX body gb)
  (hgl:Gl X "enumerate" :=by rfl) (hst:starEach [a] X.env= [(false,eval a X.env)]:=by rfl) (hs1:starEach [a] X.env=(false,eval a X.env)::starEach [] X.env:=by rfl) (hs:∀x,foldedSetIterable (.Call (.Name "enumerate" p) [a] [] p2) X.env x=pure x:=by intro _;rfl):
  SD X EX (.For (.Tuple elts x1 tp) (.Call (.Name "enumerate" p) [a] [] p2) body [] pos) (bm_7 g fg gb):=
 PS.imp (ci_7 hp hc (cw_4 hgl hm (f_6 he m_7 hs1) hst) hg hb hs) fun D σ H ⟨H0,G0,G,Δ,O,E,q⟩=>by
  refine⟨H0,G0,G,Δ,O,E, ?_⟩;unfold bm_7 at q;cases e1:g Δ with
  |ok d Δ1=>
   simp only [e1] at q;intro v G1 H1 O1 E1 s1 r1;cases d with
   |lst ds=>
    cases r1 with
    |lst h r=>exact .inl ⟨_,rfl,⟨_,E1.st.gh.seq h⟩,aa_3 E1 (cw_5 h r) (Fin.mono s1 q)⟩
   |str z=>
    cases r1;exact .inr ⟨z,rfl,aa_3 E1 (cw_6 z) (Fin.mono s1 q)⟩
   |_=>exact q.elim
  |ex x Δ1=>simp only [e1] at q;exact fun G1 H1 O1 E1 s1=>q σ G1 H1 O1 E1 s1
  |no=>simp only [e1] at q;exact q.elim
theorem cz_1{i:Nat}{x:Str}{e2:Expr}{fk:FE}{p1 zg zf:Pos}(h2:ED X EX e2 fk)(hN:X.N[i]? =some x:=by rfl)(hv:Vis X.env.scope x:=by first|exact Or.inl rfl|exact Or.inr (Or.inl rfl)|exact Or.inr (Or.inr rfl))(hd:(x ==("__debug__" :Str))=false:=by decide)
  (hcd:(x ==("__classdict__" :Str))=false:=by decide) (hm:M1 X (.Name x p1) "pop" zg e2 zf:=by exact⟨rfl,rfl,rfl,rfl⟩)
  (hs:swapsWith (.Call (.Attribute (.Name x p1) "pop" zg) [e2] [] zf) none pos.line X.env=pure false:=by rfl):
  SD X EX (.Expr (.Call (.Attribute (.Name x p1) "pop" zg) [e2] [] zf) pos) (bz_4 i fk):=
 PS.imp (z_9 (bh_8 (j_7 hN hv hd hcd) h2 hm) hs) fun D σ H ⟨H0,G0,G,Δ,O,E,q⟩=>by
  unfold bz_4 at q
  split at q
  ·rename_i kds e1;obtain⟨v0,s1,t⟩:=E.ow i _ _ e1 rfl;obtain⟨c1,kvc,rfl,mc,hHc,hkc,rlc⟩:=Ow.dict_of t;refine⟨_,s1,c1,rfl, .inl ⟨kvc, .inl hHc⟩, ?_⟩;refine⟨G,vsh Δ,E.st.gh,E.gsh, ?_⟩;cases e3:fk (vsh Δ) with
   |ex x=>simp only [e3] at q;exact q.elim
   |no=>simp only [e3] at q;exact q.elim
   |ok z=>
    simp only [e3] at q;refine WP.intro fun v2 G2 H2 st2 r2=> ?_
    split at q
    ·rename_i k0 ek
     split at q
     ·rename_i hin;have hv2:=t_8 r2 ek;subst hv2;have E2:=E.grow st2;obtain⟨d0,ed0⟩:=Option.isSome_iff_exists.mp hin;obtain⟨vv,ev,_⟩:=(w_0 k0 hkc rlc).2 d0 ed0;obtain⟨p1,p2⟩:=aq_9 k0 hkc rlc;exact⟨kvc,k0,vv,st2.hh _ _ hHc,rfl,ev,q σ G2 _ _ (E2.writeD s1 mc p1 (p2.mono st2.gg)) st2.gg⟩
     ·exact q.elim
    ·exact q.elim
  ·exact q.elim
end
theorem ar_7{c:Bool}{P:Program}{w:World}{x qual:Str}{st:Stmt}{f:Addr}{N ps:List Str}{k n:Nat}{g:FS}(F:Fun K x qual st f fd)(hn:ps.length=n + 1)(hle:ps.length≤N.length)
  (zj:HBd c P w K mg base N qual st f k g) (S:FnScope N ps (b_5 st):=by exact⟨rfl,rfl,rfl,by decide +kernel,rfl,by decide +kernel,by decide +kernel⟩):FnX P w K mg base c (k + 1) f fd ps (spR K n (m_3 N.length g)):=
 fn_R F S hn hle fun zp A outer s H E hr=>zj rfl hr (RoomC.units hr) S.nd br_3
theorem dp_0{c:Bool}{P:Program}{w:World}{x qual cn:Str}{st:Stmt}{f C:Addr}{N ps:List Str}{k n:Nat}{g:FS}(F:Fun K x qual st f fd)(hC:ClsAt K cn C)(hn:ps.length=n + 1)(hle:ps.length≤N.length)
  (zj:HBd c P w K mg base N qual st f k g) (S:FnScope N ps (b_5 st):=by exact⟨rfl,rfl,rfl,by decide +kernel,rfl,by decide +kernel,by decide +kernel⟩):FnX P w K mg base c (k + 1) f fd ps (spJ K C cn n (z_1 N.length cn g)):=
 fn_J F S hC hn hle fun zp A outer s H E hr=>zj rfl hr (RoomC.units hr) S.nd br_3
section
variable{P:Program}{w:World}{K:Frag}{mg:Str→Option Value}{base:Heap}{cc:Bool}{k n:Nat}{ps:List Str}{st:Stmt}{Fn:Tn→List D→RR}{m q c:Str}{C:Addr}
theorem bz_5(xa:ClsAt K c C)(cl:Cls K C)(W:FnMet K C m q st)(ok:∀{f:Addr} {fd:FuncData},Fun K m q st f fd→FnX P w K mg base cc k f fd ps (spR K n Fn)∧Binds K fd ps []):MethR P w K mg base cc k n m c Fn:=by
 obtain⟨f,a,⟨fd,F⟩,kp,i⟩:=W;exact⟨⟨C,f,fd,ps,xa,cl,⟨a,i,kp⟩,(ok F).1,(ok F).2⟩⟩
theorem bf_1{x:Str}{h:Heap}(X:K.In h)(G:h.Ns mainGlobals mg)(W:FnTop K x st)(ok:∀{f:Addr} {fd:FuncData},Fun K x x st f fd→FnX P w K mg base cc k f fd ps (spR K n Fn)∧Binds K fd ps []):FnRd P w K mg base cc x k n ps Fn:=by
 obtain⟨f,a,fd,F⟩:=W;exact dj_2 F (mg_of X G a) (ok F).2 (ok F).1
theorem dj_3{Fi:List D→R (List Str×List Tn)}(xa:ClsAt K c C)(gx:mg c=some (.ref C))(ms:makesIn K C=true)(kc:keepIn K (.ref C)=true)(W:FnMet K C "__init__" q st)(ok:∀{f:Addr} {fd:FuncData},Fun K "__init__" q st f fd→FnX P w K mg base cc k f fd ps (spJ K C c n Fi)∧Binds K fd ps []):MakJ P w K mg base cc c k n Fi:=by
 obtain⟨f,a,⟨fd,F⟩,kp,i⟩:=W;exact⟨C,f,fd,ps,xa,gx,⟨ms,a,i,kc⟩,(ok F).1,(ok F).2⟩
end
theorem cz_2{Δ:SE}{i:Nat}{s:Sl}{t t':Tn}{lk:Bool}(e:Δ[i]? =some s)(q:s.tree=some (t,lk)):vsh (Δ.set i (Sl.mk lk t'))=vsh Δ:=by
 unfold vsh;rw [List.map_set];apply List.ext_getElem?;intro j
 by_cases h:i=j
 ·subst h;have hlt:i < Δ.length:=(List.getElem?_eq_some_iff.mp e).1;rw [List.getElem?_set_self (by rw [List.length_map];exact hlt),List.getElem?_map,e];cases lk <;> cases s <;> first|rfl|cases q
 ·rw [List.getElem?_set_ne h]
def sSdb(i:Nat)(f1 f2:FE):FS:=fun Δ=>match(Δ[i]?).bind Sl.tree with
 |some (.dic zm,lk)=>(match f1 (vall Δ) with
   | .ok z1=>(match q_4 z1.d with
    |some k1=>if zm.length < 16777216 then(match f_0 (sdK zm k1) k1 with
     |some (.lst ts)=>if ts.length < 16777216 then(match f2 (vsh Δ) with
      | .ok z2=> .nx (Δ.set i (Sl.mk lk (.dic (repA (sdK zm k1) k1 (.lst (ts ++ [.sh z2.d]))))))
      |_=> .no) else .no
     |_=> .no) else .no
    |none=> .no)
   |_=> .no)
 |_=> .no
section
variable{X:Cx}{EX:EXS}{pos:Pos}
theorem bz_6{H0:HB}{G0 G H:Hp}{σ:Sg}{Δ:SE}{O:OS}{D:Ends}{i:Nat}{s:Sl}{zm:List (Key×Tn)}{lk:Bool}{k:Key}{ts:List Tn}{f2:FE}{z2:W}(E:Ev K H0 G0 G H σ Δ O)(e1:Δ[i]? =some s)(etr:s.tree=some (.dic zm,lk))(ev:f_0 zm k=some (.lst ts))(hz:ts.length < 16777216)(ef:f2 (vsh Δ)= .ok z2)
  (q:∀σ' G' H' O',Ev K H0 G0 G' H' σ' (Δ.set i (Sl.mk lk (.dic (repA zm k (.lst (ts ++ [.sh z2.d])))))) O'→Same G G'→D.nx σ' H'):
  ∃c a kvs,σ[i]? =some (some (.ref a))∧H a=some (.dK kvs)∧j_9 kvs k=some (.ref c)∧tyV K "list" (.ref c) H∧tD K EX f2 σ H fun y H2=>bb_3 (.ref c) [y] H2 fun _ H3=>D.nx σ H3:=by
 obtain⟨v0,s1,t⟩:=E.ow i _ _ e1 (Sl.tree_own etr);obtain⟨a,kvs,S1,rfl,m,hH,hk,sub,rl⟩:=t.dic_of;obtain⟨vc,Sc,ec,tc,ic,fc⟩:=OwL.focusK k hk rl ev;cases tc with
 |lst hc mc subc rc=>
  rename_i c vs S2;have hca:c≠a:=(sub c (ic c mc)).2;refine⟨c,a,kvs,s1,hH,ec, .inl ⟨rfl,_,SqL.of hc⟩,G,vsh Δ,E.st.gh,E.gsh, ?_⟩;rw [ef];refine WP.intro fun y G2 H2 st2 r2=> ?_;have E2:=E.grow st2;have zk:vs.length < sizeLine:=by rw [rc.length,sizeLine_eq];exact hz
  refine⟨c,vs,y,rfl,rfl,st2.hh _ _ hc,zk, ?_⟩;refine q σ G2 _ _ (E2.writeIn e1 etr s1 (sub c (ic c mc)).1 ?_) st2.gg;obtain⟨vc',Sc',ec',tc',ic',fc'⟩:=OwL.focusK k hk (OwL.mono st2.gg rl (fun _ _ _ z=>z) fun _ z=>z) ev;rw [ec] at ec';cases ec';cases tc' with
  |lst hc' mc' subc' rc'=>
   rename_i vs' S2';rw [hc] at hc';cases hc';refine Ow.dic (S1:=S1) (by rw [a_5 (Ne.symm hca)];exact st2.hh _ _ hH) (by rw [ai_4];exact hk) m sub ?_;refine fc' (fun b o hb nb z=> ?_) ?_
   ·rw [a_5 (show b≠c from fun w=>nb (by rw [w];exact mc'))];exact st2.hh _ _ z
   ·refine Ow.lst (S1:=S2') a_9 mc' subc' (OwL.append (S2:=fun _=>False) (rc'.mono (Same.refl _) (fun b o hb z=> ?_) fun _ z=>z) (.cons (S1:=fun _=>False) (S2:=fun _=>False) (.sh r2) .nil (fun _ z=>z.elim) (fun _ z=>z) fun _ z=>z) (fun _ _ z=>z) (fun _ z=>z) fun _ z=>z.elim);rw [a_5 (subc' b hb).2];exact st2.hh _ _ z
theorem co_4{i:Nat}{x:Str}{e1 e2:Expr}{f1 f2:FE}{p1 lp a1 c1 zg zf:Pos}(h1:ED X EX e1 f1)(h2:ED X EX e2 f2)(hN:X.N[i]? =some x:=by rfl)(hv:Vis X.env.scope x:=by first|exact Or.inl rfl|exact Or.inr (Or.inl rfl)|exact Or.inr (Or.inr rfl))(hd:(x ==("__debug__" :Str))=false:=by decide)
  (hcd:(x ==("__classdict__" :Str))=false:=by decide) (hm:M2 X (.Name x p1) "setdefault" a1 e1 (.List [] lp) c1:=by exact⟨rfl,rfl,rfl,rfl⟩)
  (hsw:swapsWith (.Call (.Attribute (.Call (.Attribute (.Name x p1) "setdefault" a1) [e1, .List [] lp] [] c1) "append" zg) [e2] [] zf) none pos.line X.env=pure false:=by rfl)
  (ae:attributeBase (.Call (.Attribute (.Name x p1) "setdefault" a1) [e1, .List [] lp] [] c1) "append" X.env (eval (.Call (.Attribute (.Name x p1) "setdefault" a1) [e1, .List [] lp] [] c1) X.env)=eval (.Call (.Attribute (.Name x p1) "setdefault" a1) [e1, .List [] lp] [] c1) X.env:=by rfl)
  (aw:((backTo zf (starEach [e2] X.env)).all (fun x=> !x.1) && (backToKw zf (keywordEach [] X.env)).all (fun x=>x.1.isSome)
   && decide ([e2].length + ([]:List Keyword).length + (if([]:List Keyword).isEmpty then 0 else 1) < 30))=true:=by rfl)
  (af:(zg.endLine ==zf.line)=true:=by rfl) (hs:starEach [e2] X.env=(false,eval e2 X.env)::starEach [] X.env:=by rfl) (aa:(backTo zf (starEach [] X.env)).any (·.1)=false:=by rfl):
  SD X EX (.Expr (.Call (.Attribute (.Call (.Attribute (.Name x p1) "setdefault" a1) [e1, .List [] lp] [] c1) "append" zg) [e2] [] zf) pos) (sSdb i f1 f2):=
 PS.imp (z_9 (bw_4 PySem.F.plainAttrs_list PySem.F.slot_list_append PySem.F.type_list_append ah_9 (cy_1 (j_7 hN hv hd hcd) h1 (bq_4 m_7) hm) (f_6 h2 m_7 hs) ae aw af hs aa) hsw) fun D σ H ⟨H0,G0,G,Δ,O,E,q⟩=>by
  unfold sSdb at q
  split at q
  ·rename_i zm lk e0;obtain⟨s,e1,etr⟩:=Option.bind_eq_some_iff.mp e0;obtain⟨v0,s1,t⟩:=E.ow i _ _ e1 (Sl.tree_own etr);obtain⟨a,kvs,S1,rfl,m,hH,hk,sub,rl⟩:=t.dic_of;refine⟨.ref a,s1,a,rfl, .inl ⟨kvs, .inl hH⟩,x_7 G H O,vall Δ,E.aH,E.gall, ?_⟩;cases e3:f1 (vall Δ) with
   |ex x=>simp only [e3] at q;exact q.elim
   |no=>simp only [e3] at q;exact q.elim
   |ok z1=>
    simp only [e3] at q;refine WP.intro fun v1 G1 H1 st1 r1=> ?_
    split at q
    ·rename_i k1 ek1
     split at q
     ·rename_i hl
      split at q
      ·rename_i ts ev
       split at q
       ·rename_i hz;cases e4:f2 (vsh Δ) with
        |ex x=>simp only [e4] at q;exact q.elim
        |no=>simp only [e4] at q;exact q.elim
        |ok z2=>
         simp only [e4] at q
         ·have hv1:=t_8 r1 ek1;subst hv1;refine⟨Nat.zero_le _,fun p hp=> ?_⟩;have E3:=E.keep st1.hh;have E5:=E3.keep (k_5 hp (.lst []));have hle:kvs.length=zm.length:=by
           have:=congrArg List.length hk
           rwa [List.length_map,List.length_map] at this
          have hH5:upd H1 p (.lst []) a=some (.dK kvs):=k_5 hp _ _ _ (st1.hh _ _ hH);refine⟨kvs,k1,hH5,rfl,by rw [hle,sizeLine_eq];exact hl,fun v hv=> ?_,fun hn=> ?_⟩
          ·have hA:sdK zm k1=zm:=by
            unfold sdK;cases hA:f_0 zm k1 with
            |some t=>rfl
            |none=>rw [bl_6 hk hA] at hv;cases hv
           rw [hA] at ev q;obtain⟨c,a',bf,s1',hH',ec,ty,td⟩:=bz_6 (D:=D) (EX:=EX) E5 e1 etr ev hz e4 q;rw [s1] at s1';cases s1';rw [hH5] at hH';cases hH';rw [hv] at ec;cases ec;exact⟨ty,td⟩
          ·have hA:f_0 zm k1=none:=by
            cases hA:f_0 zm k1 with
            |none=>rfl
            |some t=>
             obtain⟨v',_,ev',_⟩:=OwL.focusK k1 hk rl hA;rw [hn] at ev';cases ev'
           have hK:sdK zm k1=zm ++ [(k1, .lst [])]:=by unfold sdK;rw [hA]
           rw [hK] at ev q;have npO:∀j b,O j b→b≠p:=fun j b hb z=>by
            have h0:=(E.out j b hb).2.2;cases e:H b with
            |none=>exact h0 e
            |some o=>rw [z] at e;rw [st1.hh _ _ e] at hp;cases hp
           have hap:a≠p:=npO i a m;have df:(kvs.any fun kv=>decide (kv.1=k1))=false:=by
            rw [y_0,hn];rfl
           have cy:q_3 kvs k1 (.ref p)=kvs ++ [(k1, .ref p)]:=by
            rw [bx_4];unfold o_2;rw [df];rfl
           rw [cy];have Gp:G p=none:=E3.st.gh.free hp;have old:∀b o,H1 b=some o→upd H1 p (.lst []) b=some o:=fun b o z=>k_5 hp _ b o z;have hp1:upd H1 p (.lst []) p=some (.lst []):=a_9;have ms:MStep2 (O i) G H1 G (upd (upd H1 p (.lst [])) a (.dK (kvs ++ [(k1, .ref p)]))):=⟨fun b o nb z=>by rw [a_5 (fun w=>nb (by rw [w];exact m))];exact old b o z,fun b o z=>by
            have:b≠a:=fun w=>by rw [w,(E.out i a m).1] at z;cases z
            rw [a_5 this];exact old b o (E3.st.gh b o z),Same.refl _,fun b _ z _=>z⟩
           have E6:Ev X.K H0 G0 G (upd (upd H1 p (.lst [])) a (.dK (kvs ++ [(k1, .ref p)]))) σ (Δ.set i (Sl.mk lk (.dic (zm ++ [(k1, .lst [])])))) (setA O i fun b=>O i b∨b=p):=by
            refine E3.step2 (S:=fun b=>O i b∨b=p) (Sl.mk_own lk _) (Sl.mk_lk lk _) (E3.mk_lt e1 etr _) ms s1 (fun b hb=> ?_) ?_
            ·rcases hb with hb|hb
             ·refine⟨.inl hb,(E3.out i b hb).1, ?_⟩
              by_cases w:b=a
              ·rw [w,a_9];simp
              ·rw [a_5 w];cases e:H1 b with
               |none=>exact absurd e (E3.out i b hb).2.2
               |some o=>rw [old b o e];simp
             ·subst hb;exact⟨.inr hp,Gp,by rw [a_5 (Ne.symm hap),hp1];simp⟩
            ·refine Ow.dic (S1:=fun b=>S1 b∨b=p) a_9 (by rw [List.map_append,List.map_append,hk];rfl) (.inl m) (fun b hb=> ?_) ?_
             ·rcases hb with hb|hb
              ·exact⟨.inl (sub b hb).1,(sub b hb).2⟩
              ·subst hb;exact⟨.inr rfl,Ne.symm hap⟩
             ·rw [List.map_append,List.map_append];refine OwL.append (S2:=fun b=>b=p) (rl.mono (Same.refl _) (fun b o hb z=> ?_) fun _ z=>z) (.cons (S1:=fun b=>b=p) (S2:=fun _=>False) (.lst (S1:=fun _=>False) (by rw [a_5 (Ne.symm hap)];exact hp1) rfl (fun _ z=>z.elim) .nil) .nil (fun _ _ z=>z) (fun _ z=>z) fun _ z=>z.elim) (fun b z1 z2=>npO i b (sub b z1).1 z2) (fun b z=> .inl z) fun b z=> .inr z;rw [a_5 (sub b hb).2];exact old _ _ (st1.hh _ _ z)
           have hlt:i < Δ.length:=(List.getElem?_eq_some_iff.mp e1).1;obtain⟨c,a',bf,s1',hH',ec,ty,td⟩:=bz_6 (D:=D) (EX:=EX) (lk:=lk) E6 (s:=Sl.mk lk (.dic (zm ++ [(k1, .lst [])]))) (by rw [List.getElem?_set_self hlt]) (by cases lk <;> rfl) ev hz (by rw [cz_2 e1 etr];exact e4) (fun σ' G' H' O' E' sg=>q σ' G' H' O' (by rw [List.set_set] at E';exact E') sg);rw [s1] at s1';cases s1';rw [a_9] at hH';cases hH';rw [←cy,ck_5,if_pos rfl] at ec;cases ec;exact⟨ty,td⟩
       ·exact q.elim
      ·exact q.elim
     ·exact q.elim
    ·exact q.elim
  ·exact q.elim
end
def ag_5(a b:D):R W:=match a,b with
 | .dic ka, .dic []=> .ok (.sh (.bl (!ka.isEmpty)))
 |_,_=> .no
def co_5(fk fv:FE):FE:=fun δ=>(fk δ).bind fun k=>match q_4 k.d with
 |some kk=>(fv δ).bind fun v=> .ok (.ow (.dic [(kk,v.d)]))
 |none=> .no
def bm_8(i j:Nat)(f:FE):FS:=fun Δ=>match Δ[j]? with
 |some (.ow (.lst es))=>(match f (vall Δ) with
  | .ok z=>(match z.d with
   | .int k=>if 0≤k∧k < (es.length:Int)∧es.length≤16777216 then(match es[k.toNat]? with
    |some d=> .nx ((Δ.set j (.ow (.lst (es.eraseIdx k.toNat)))).set i (.sh d))
    |none=> .no) else .no
   |_=> .no)
  |_=> .no)
 |_=> .no
def eKL(f:FE):FE:=fun δ=>(f δ).bind fun w=>match w.d with
 | .dic kds=> .ok (.ow (.lst (kds.map fun p=>kD p.1)))
 |_=> .no
section
variable{X:Cx}{EX:EXS}{pos:Pos}
theorem bm_9(hu:X.A.units + 64 < cLine):OpD X (compareOp .NotEq) ag_5:=by
 intro zd s σ H x y v u Q I rx ry h;obtain⟨EX,G,a,b,g,ha,hb,o⟩:=h;cases ha with
 |dic h1 hk1 r1=>
  rename_i a1 kvs1 kds1;cases hb with
  |dic h2 hk2 r2=>
   rename_i a2 kvs2 kds2;cases kds2 with
   |cons _ _=>exact False.elim o
   |nil=>
    cases rx;cases ry;obtain⟨z1,lo1,ws1,kv1,dd1⟩:=t_0 I.hok (Same.rdD g h1);obtain⟨z2,lo2,ws2,kv2,dd2⟩:=t_0 I.hok (Same.rdD g h2);have e2:kvs2= []:=List.map_eq_nil_iff.mp hk2;subst e2;cases kv2;have hl:ws1.length=kds1.length:=by
     rw [←kv1.length];have:=congrArg List.length hk1
     rwa [List.length_map,List.length_map] at this
    refine keq_ne (r:=true) lo1 lo2 dd1 dd2 (by omega) (fun e=> ?_) ?_
    ·have:ws1= []:=List.eq_nil_of_length_eq_zero e;subst this;exact .nil
    ·have e3:(!(ws1.length ==([]:List (Key×Value)).length && true))= !kds1.isEmpty:=by
      cases kds1 with
      |nil=>rw [List.length_nil] at hl;rw [hl];rfl
      |cons p r=>rw [List.length_cons] at hl;rw [hl];simp
     rw [e3];exact⟨.bl _,H,I,rfl,(show WP X.K G H (.sh (.bl (!kds1.isEmpty))) Q from o).use g (.bl _)⟩
  |_=>exact False.elim o
 |_=>exact False.elim o
theorem cz_3{e1 e2:Expr}{fk fv:FE}(hk:ED X EX e1 fk)(hv:ED X EX e2 fv):ED X EX (.Dict [some e1] [e2] pos) (co_5 fk fv):=
 PE.imp (cu_8 (ck_8 hk hv cu_7) rfl rfl (by simp) (Nat.le_of_ble_eq_true rfl)) fun σ H Q ⟨G,δ,g0,s0,o⟩ p hp=>by
  have so:=Step.own g0 hp (.dK []);unfold co_5 at o;refine⟨G,δ,so.gh,s0, ?_⟩;cases ek:fk δ with
  |ex x=>rw [ek] at o;exact(EX σ).mono _ _ _ _ _ so o
  |no=>rw [ek] at o;exact o
  |ok wk=>
   rw [ek] at o;simp only [R.bind_ok] at o;refine WP.intro fun v1 G1 H1 st1 r1=>⟨G1,δ,st1.gh,s0.mono st1.gg, ?_⟩;cases ekk:q_4 wk.d with
   |none=>rw [ekk] at o;exact False.elim o
   |some kk=>
    rw [ekk] at o;simp only at o;have hv1:=t_8 r1 ekk;subst hv1;cases ev:fv δ with
    |ex x=>rw [ev] at o;exact(EX σ).mono _ _ _ _ _ (so.trans st1) o
    |no=>rw [ev] at o;exact o
    |ok wv=>
     rw [ev] at o;simp only [R.bind_ok] at o;refine WP.intro fun v2 G2 H2 st2 r2=> ?_;have st:=(so.trans st1).trans st2;have hp2:H2 p=some (.dK []):=st2.hh _ _ (st1.hh _ _ a_9);have gp:G p=none:=g0.free hp;have gp2:G2 p=none:=st2.nw p (st1.nw p gp (by rw [a_9];simp)) (by rw [st1.hh _ _ a_9];simp);refine⟨hp2, [(kk,v2)],rfl,Nat.le_of_ble_eq_true rfl, ?_⟩;refine(show WP X.K G H (.ow (.dic [(kk,wv.d)])) Q from o) (.ref p) (fun b=>b=p) G2 _ ⟨fun b o' z=> ?_,fun b o' z=> ?_,st.gg,st.nw⟩ (fun a ha=> ?_) ?_
     ·rw [a_5 (b_9 z hp)];exact st.hh b o' z
     ·rw [a_5 (b_9 z gp2)];exact st.gh b o' z
     ·subst ha;exact⟨hp,gp2,by rw [a_9];simp⟩
     ·exact Ow.dict a_9 rfl rfl (.cons r2 .nil)
theorem cz_4{i j:Nat}{x y:Str}{e:Expr}{f:FE}{p1 p2 zg zf:Pos}(he:ED X EX e f)(hN:X.N.Nodup)(hi:X.N[i]? =some x:=by rfl)(hx:Loc X.env.scope x:=by first|exact Or.inl rfl|exact Or.inr rfl)(hj:X.N[j]? =some y:=by rfl)(hv:Vis X.env.scope y:=by first|exact Or.inl rfl|exact Or.inr (Or.inl rfl)|exact Or.inr (Or.inr rfl))(hd:(y ==("__debug__" :Str))=false:=by decide)
  (hcd:(y ==("__classdict__" :Str))=false:=by decide) (hs:swapsWith (.Call (.Attribute (.Name y p1) "pop" zg) [e] [] zf) (some (.Name x p2)) pos.line X.env=pure false:=by rfl)
  (hf:X.fn x=true∨X.env.scope.names.lookup x=some .local:=by first|exact .inl rfl|exact .inr rfl|assumption)
  (hb2:attributeBase (.Name y p1) "pop" X.env (eval (.Name y p1) X.env)=eval (.Name y p1) X.env:=by rfl)
  (hw2:((backTo zf (starEach [e] X.env)).all (fun x=> !x.1) && (backToKw zf (keywordEach [] X.env)).all (fun x=>x.1.isSome)
   && decide ([e].length + ([]:List Keyword).length + (if([]:List Keyword).isEmpty then 0 else 1) < 30))=true:=by rfl)
  (hl2:(zg.endLine ==zf.line)=true:=by rfl) (hs2:starEach [e] X.env=(false,eval e X.env)::starEach [] X.env:=by rfl) (hp2:(backTo zf (starEach [] X.env)).any (·.1)=false:=by rfl):
  SD X EX (.Assign [.Name x p2] (.Call (.Attribute (.Name y p1) "pop" zg) [e] [] zf) pos) (bm_8 i j f):=
 PS.imp (bp_3 hN hi hx (bw_4 PySem.F.plainAttrs_list PySem.F.slot_list_pop PySem.F.type_list_pop cj_8 (j_7 hj hv hd hcd) (f_6 he m_7 hs2) hb2 hw2 hl2 hs2 hp2) hs hf) fun D σ H ⟨H0,G0,G,Δ,O,E,q⟩=>by
  unfold bm_8 at q
  split at q
  ·rename_i es e2;obtain⟨v1,s2,t2⟩:=E.ow j _ _ e2 rfl;obtain⟨b,us,rfl,m2,hB,rb⟩:=t2.list_of;refine⟨.ref b,s2, .inl ⟨rfl,_,SqL.of hB⟩,x_7 G H O,vall Δ,E.aH,E.gall, ?_⟩;cases e3:f (vall Δ) with
   |ex x=>simp only [e3] at q;exact q.elim
   |no=>simp only [e3] at q;exact q.elim
   |ok z=>
    simp only [e3] at q;refine WP.intro fun v2 G2 H2 st2 r2=> ?_;revert q r2;cases z.d with
    |int k=>
     intro q r2;cases r2;simp only at q
     split at q
     ·rename_i hk;cases e4:es[k.toNat]? with
      |none=>simp only [e4] at q;exact q.elim
      |some d=>
       simp only [e4] at q;obtain⟨v,e5,hv5⟩:=rb.get e4;have sz:seqIndex? k us.length=some k.toNat:=by
        rw [rb.length];unfold seqIndex?;simp only;have hn:¬k < 0:=by omega
        rw [if_neg hn,if_pos (by simp [hk.1,hk.2.1])]
       refine⟨b,us,k,k.toNat,v,rfl,rfl,st2.hh _ _ hB,by omega,by omega,sz,e5, ?_⟩;exact q _ G _ _ (((E.keep st2.hh).writeL s2 m2 (rb.eraseIdx k.toNat)).put hv5) (Same.refl _)
     ·exact q.elim
    |_=>intro q _;exact False.elim q
  ·exact q.elim
def dc_6(to:TE):TE:=fun σ H Q=>to σ H fun x H1=>∃a kvs,x= .ref a∧Rd H1 a (.dK kvs)∧∀p,H1 p=none→Q (.ref p) (upd H1 p (.ext fun h=>KdlKeysView h p a))
theorem cz_5{o:Expr}{to:TE}{zg zf:Pos}(ho:PE X o to)(ae:attributeBase o "keys" X.env (eval o X.env)=eval o X.env:=by rfl)(af:(zg.endLine ==zf.line)=true:=by rfl):PE X (.Call (.Attribute o "keys" zg) [] [] zf) (dc_6 to):=by
 intro zd s σ H Q I h;refine wpAny_Call_method0_late ae af (thn (ho zd s σ H _ I h) fun v s1 ⟨x,H1,I1,r1,a,kvs,ex,rd,q⟩=> ?_);subst ex;obtain rfl:v=Value.ref a:=r1;obtain⟨z,lo,ws,kv,dd⟩:=t_0 I1.hok rd;refine⟨"dict", "dict.keys",PySem.F.plainAttrs_dict,PySem.F.slot_dict_keys,PySem.F.type_dict_keys,dd.typeIs,dd.mapOf.noDict,Calls.callWith_builtin rfl (PySem.evalArgs_none ?_)⟩;refine call_meetsIn PySem.F.slot_dict_keys dd.typeIs PySem.F.entry_dict_keys (PySem.F.args_dict_keys_1 _) (kdl_meets_keys (e_1 X.prog X.w) a lo) ⟨⟨ws,dd⟩, ?_⟩;have hf:H1 s1.heap.objs.size=none:=I1.hok.fresh (Nat.le_refl _);refine⟨.ref s1.heap.objs.size,_,I1.laid (t':=s1.toks) (fun b u e=>Heap.get?_push_of_some _ e) (Nat.le_refl _) ?_,rfl,q _ hf⟩;have hv:KdlKeysView (s1.heap.push {cls:= .type "dict_keys",data:= .fields #[.ref a]}) s1.heap.objs.size a:=⟨_,Heap.get?_push_size _ rfl,rfl,rfl⟩;exact⟨hv,⟨_,Heap.get?_push_size _ rfl⟩,fun h1 h2 ⟨o,e1,e2⟩ k=>⟨o,k o e1,e2⟩⟩
theorem bn_0{o:Expr}{f:FE}{p zg zf:Pos}(hc:X.calm=true)(hm:X.mg "list" =none)(he:ED X EX o f)(hg:Gl X "list" :=by rfl)(ae:attributeBase o "keys" X.env (eval o X.env)=eval o X.env:=by rfl)(af:(zg.endLine ==zf.line)=true:=by rfl)
  (hs:starEach [.Call (.Attribute o "keys" zg) [] [] zf] X.env= [(false,eval (.Call (.Attribute o "keys" zg) [] [] zf) X.env)]:=by rfl) (hs1:starEach [.Call (.Attribute o "keys" zg) [] [] zf] X.env=(false,eval (.Call (.Attribute o "keys" zg) [] [] zf) X.env)::starEach [] X.env:=by rfl):
  ED X EX (.Call (.Name "list" p) [.Call (.Attribute o "keys" zg) [] [] zf] [] pos) (eKL f):=by
 intro zd s σ H Q I h;obtain⟨G,δ,g0,s0,h⟩:=h;have ta:cj_3 (dc_6 (tD X.K EX f)) tNil σ H fun vs H2=>∃(G1 H1:Hp) (a:Addr) (kvs:List (Key×V)) (kds:List (Key×D)) (pv:Addr),vs= [.ref pv]∧H1 pv=none∧H2=upd H1 pv (.ext fun h=>KdlKeysView h pv a)∧Same G1 H1∧Rd G1 a (.dK kvs)∧kvs.map (·.1)=kds.map (·.1)∧WP X.K G1 H1 (.ow (.lst (kds.map fun p:Key×D=>kD p.1))) Q:=by
  refine tD.seq g0 s0 h fun w v G1 H1 _ st r o'=> ?_;revert o' r;cases w.d with
  |dic kds=>
   intro r o';cases r with
   |dic hr hk rr=>exact⟨_,_,rfl,Same.rdD st.gh hr,fun pv hp=>⟨G1,H1,_,_,kds,pv,rfl,hp,rfl,st.gh,hr,hk,o'⟩⟩
  |_=>intro _ o';exact False.elim o'
 refine Call_ (ad_6 I hg hm PyProof.Rows.boot_list (PyProof.Rows.callWith_type1 (thn ((f_6 (cz_5 he ae af) m_7 hs1) pos zd s σ H _ I ta) fun us s1 ⟨vs,H2,I2,r1,G1,H1,a,kvs,kds,pv,ev,hp,eH,g1,rd,hk,q⟩=> ?_) hs rfl));subst ev;obtain⟨u,rfl,ru⟩:=r1.one;cases ru;have hv:H2 pv=some (.ext fun h=>KdlKeysView h pv a):=by rw [eH,a_9]
 have g2:Same H1 H2:=by rw [eH];exact k_5 hp _
 obtain⟨vw,_,_⟩:=I2.hok pv _ hv;obtain⟨z,lo,ws,kv,dd⟩:=t_0 I2.hok (Same.rdD (g1.trans g2) rd);obtain⟨ep,da⟩:=dd.dictAt;refine kdl_call (kdl_keys (r:=pv) (d:=a)) (I2.ok.hd hc) ⟨vw,da⟩ (by rw [←kv.length];exact z) fun h' tk zn c kk hat it=> ?_;have rv':Vals ((kvs.map (·.1)).map kV) zn.toList:=ai_5 kv (by rw [Array.length_toList];exact it.1) fun j v e=>it.2 j v (by rw [←Array.getElem?_toList];exact e);have fr:H2 s1.heap.objs.size=none:=I2.hok.fresh (Nat.le_refl _);refine⟨.ref _,upd H2 _ (.lst _),I2.laid (t':=tk) kk (Nat.le_refl _) ⟨?_,zn.toList,c,rv',by simpa using hat⟩,rfl, ?_⟩
 ·rw [List.length_map,List.length_map];exact z
 ·have e:(kds.map fun p=>kD p.1)=(kvs.map (·.1)).map kD:=by rw [hk,List.map_map];rfl
  rw [e] at q;have st:Step G1 H1 G1 H2:=⟨g2,g1.trans g2,Same.refl _,fun _ n _=>n⟩;exact v_7 (EX:=EX0) (show Out X.K EX0 G1 H2 (.ok (.ow (.lst ((kvs.map (·.1)).map kD)))) Q from WP.mono st q) (g1.trans g2) (bx_7 _) _ fr
end
end L3
namespace PySem.W
open PySem PySem.Calls PyProof.Rows PySem.Spec
section
variable{prog:Program}{w:World}{A:Around}{E:Value→Shared→Prop}{s:Shared}{T:String}{r d:Addr}{n:Nat}{P:Nat→Value→Prop}{OK:Heap→Prop}
theorem collect_kdl{Q:List Value→Shared→Prop}(K:KdlSrc prog w T r d n P OK)(hh:A.handled=none)(hok:OK s.heap)(hn:n≤sizeLine)
  (hQ:∀h' tk zn,(∀b o,s.heap.get? b=some o→h'.get? b=some o)→s.heap.objs.size≤h'.objs.size→ItemsOf P zn n→Q zn.toList {s with heap:=h',toks:=tk}):wpAny (model prog w) A (collect (.ref r)) Q E s:=by
 have hlt:=K.there _ hok;unfold collect;refine wpAny_bind (wpAny_runValue (codeAny_builtin PySem.F.entry_proto_collect ?_));rw [Around.under_plainId PySem.F.plain_proto_collect _];show wpAny _ A.in1 (newList [] >>=fun l=>again (.builtin "list.__iadd__" ⟨[l, .ref r], []⟩)) _ _ s;refine wpAny_bind (wpAny_newObj_type ?_);refine wpAny_pure ⟨plainId_quiet PySem.F.plain_list_iadd _,codeAny_builtin PySem.F.entry_list_iadd ?_⟩;rw [Around.under_plainId PySem.F.plain_list_iadd _];have hS₁:(s.heap.push {cls:= .type "list",data:= .seq ([]:List Value).toArray}).get? s.heap.objs.size=some {cls:= .type "list",data:= .seq #[] 0}:=Heap.get?_push_size _ rfl;show wpAny _ A.in1 (Builtin.List.listExtendWith (.ref s.heap.objs.size) (.ref r) (.ref s.heap.objs.size)) _ _ _;have fin:∀{rr:Result} {s':Shared},(∃h' tk aq c',rr= .ok (.ret (.ref s.heap.objs.size))∧s'={s with heap:=h',toks:=tk}∧(∀b o,b≠s.heap.objs.size→(s.heap.push {cls:= .type "list",data:= .seq ([]:List Value).toArray}).get? b=some o→h'.get? b=some o)∧h'.get? s.heap.objs.size=some {cls:= .type "list",dict:=none,data:= .seq aq c',slots:= #[]}∧ItemsOf P aq n)→
   rr= .ok (.ret (.ref s.heap.objs.size))∧wpAny (model prog w) A (load s.heap.objs.size >>=fun o=>match o.data with| .seq xs _=>pure xs.toList|_=>unsupported "internal:collect") Q E s':=by
  rintro rr s' ⟨h',tk,aq,c',rfl,rfl,hk,hS',bo⟩
  refine⟨rfl,wpAny_bind (wpAny_load hS' ?_)⟩;exact wpAny_pure (hQ h' tk aq (fun b o e=>hk b o (Nat.ne_of_lt (Heap.lt_size e)) (Heap.get?_push_of_some _ e)) (Nat.le_of_lt (Heap.lt_size hS')) bo)
 refine wpAny_mono (kdl_extend (R:=fun rr s'=>∃h' tk aq c',rr= .ok (.ret (.ref s.heap.objs.size))∧s'={s with heap:=h',toks:=tk}∧(∀b o,b≠s.heap.objs.size→(s.heap.push {cls:= .type "list",data:= .seq ([]:List Value).toArray}).get? b=some o→h'.get? b=some o)∧h'.get? s.heap.objs.size=some {cls:= .type "list",dict:=none,data:= .seq aq c',slots:= #[]}∧ItemsOf P aq n)
  (s:={s with heap:=s.heap.push {cls:= .type "list",data:= .seq ([]:List Value).toArray}}) K hh (K.keep _ _ hok fun b _ o e=>Heap.get?_push_of_some _ e) s.heap.objs.size (Nat.ne_of_gt hlt.1) (Nat.ne_of_gt hlt.2) (.ref s.heap.objs.size) 0 hS₁ (fun h' tk aq c' hk hS' bo=>⟨h',tk,aq,c',rfl,rfl,hk,hS',bo⟩) hn) (fun f s' hf=> ?_) fun e s' hf=> ?_
 ·cases f with
  |done f=>
   obtain⟨e,q⟩:=fin hf;cases e;exact q
  |again c'=>
   refine⟨hf.1,codeAny_mono hf.2 fun rr s'' h=> ?_⟩;obtain⟨e,q⟩:=fin h;cases e;exact q
 ·obtain⟨e,_⟩:=fin hf;cases e
end
section
variable{prog:Program}{w:World}{A:Around}{E:Value→Shared→Prop}{s:Shared}{a kS:Addr}{vs:List Value}{kz:List Int}{e1:Nat}{P:PySem.Fin→Shared→Prop}
theorem ksk_restJ{f:Value}(J:Nat→Array Value→Shared→Prop)(j0:J 0 #[] s)(zk:kz.length=vs.length)(h64:vs.length < 64)
  (turn:∀(i:Nat) (v:Value) (k:Int) (kA:Array Value) (s':Shared),vs[i]? =some v→kz[i]? =some k→J i kA s'→
   wpAny (model prog w) A (call f [v]) (fun u s''=>∃t e,u= .int k t∧s''.heap.get? kS=some (seqObj "list" kA e)∧J (i + 1) (kA.push u) {s'' with heap:=s''.heap.update kS (Obj.mapSeq (·.push u))}) (fun _ _=>False) s')
  (at_:∀i kA s',J i kA s'→∃e,s'.heap.get? kS=some (seqObj "list" kA e))
  (h:∀kA s',J vs.length kA s'→IntsAre kA.toList kz→wpAny (model prog w) A (ksk_end a false vs.toArray e1 (.ref kS) kA) P E s'):
  wpAny (model prog w) A (ksk_rest a f false vs.toArray e1 (.ref kS)) P E s:=by
 unfold ksk_rest;refine wpAny_bind (wpAny_rule ?_)
 first
  |rw [List.forIn_toArray]
  |(rw [←Array.forIn_toList];simp only [List.toList_toArray])
  |rw [←Array.forIn_toList]
 refine wpAny_bind (ksk_fold (fun i s'=>∃kA,J i kA s'∧IntsAre kA.toList (kz.take i)) vs 0 s ⟨#[],j0,by simpa using IntsAre.nil⟩ ?step ?done)
 case step=>
  rintro j x s' hx ⟨kA,hJ,hk⟩
  simp only [Nat.zero_add] at hk hJ⊢;have hj:j < vs.length:=(List.getElem?_eq_some_iff.mp hx).1;obtain⟨k,hkj⟩:∃k,kz[j]? =some k:=⟨_,List.getElem?_eq_getElem (by omega)⟩;have hz:kA.size≤vs.length:=by
   have h1:=hk.length;rw [Array.length_toList,List.length_take] at h1;omega
  refine wpAny_bind (wpAny_attempt (wpAny_mono (turn j x k kA s' hx hkj hJ) (fun v s'' he=> ?_) fun _ _ hF=>hF.elim));obtain⟨t2,e2,rfl,hat,hJ2⟩:=he
  try dsimp only
  have ek:kz.take (j + 1)=kz.take j ++ [k]:=by rw [List.take_add_one,hkj];simp
  have ea:(kA.push (Value.int k t2)).toList=kA.toList ++ [Value.int k t2]:=by simp
  refine wpAny_bind (listUpdate_at hat rfl ?_ (by rw [sizeLine_eq];omega) (Nat.le_trans (Nat.le_of_eq (Array.size_push ..)) (by rw [sizeLine_eq];omega)));exact wpAny_pure ⟨rfl,kA.push (.int k t2),hJ2,by rw [ea,ek];exact ksk_snoc hk⟩
 case done=>
  rintro s' ⟨kA,hJ,hk⟩
  rw [Nat.zero_add] at hJ;have hk':IntsAre kA.toList kz:=by
   have e3:kz.take (0 + vs.length)=kz:=List.take_of_length_le (by omega);rw [e3] at hk;exact hk
  obtain⟨e,hat⟩:=at_ _ _ _ hJ
  try dsimp only
  refine wpAny_bind (listItems_at hat rfl ?_);exact h kA s' hJ hk'
end
end PySem.W
namespace L3
open PySem PySem.Spec PyProof.Rows L2
variable{K:Frag}{fd:FuncData}{mg:Str→Option Value}{us:List Value}{base:Heap}{H:Hp}{X:Cx}{pos:Pos}{v:V}
def w_3(F:List D→R W):List D→R (List (Int×D))
 | []=> .ok []
 |d::ds=>(F [d]).bind fun w=>match w.d with
  | .int n=>(w_3 F ds).bind fun r=> .ok ((n,d)::r)
  |_=> .no
def insK(p:Int×D):List (Int×D)→List (Int×D)
 | []=> [p]
 |q::r=>if p.1≤q.1 then p::q::r else q::insK p r
def ar_8:List (Int×D)→List (Int×D)
 | []=> []
 |p::r=>insK p (ar_8 r)
def ar_9(F:List D→R W)(ds:List D):R W:=match w_3 F ds with
 | .ok ps=>if ps.length < 64∧(ps.map (·.1)).Nodup then .ok (.ow (.lst ((ar_8 ps).map (·.2)))) else .no
 |_=> .no
def as_0(F:List D→R W)(f:FE):FE:=fun δ=>(f δ).bind fun w=>match w.d with
 | .dic kds=>ar_9 F (kds.map fun p=>kD p.1)
 |_=> .no
section
variable{X:Cx}{zd:List (Addr×Obj)}{σ:Sg}{H:Hp}{s:Shared}
theorem cz_6{A:Around}{F:List D→R W}{k:Nat}{f:Addr}{ps:List Str}{u:Value}{d:D}{n:Int}{w:W}(ok:FnX X.prog X.w X.K X.mg X.base true k f fd ps (spX X.K 1 F))(hb:Binds X.K fd ps [])(I:Inv X zd σ H s)(hA:A.frames=X.A.frames)(hr:RoomC true k A)
  (rv:RelV v u) (hv:∀G,Has X.K G v d) (e:F [d]= .ok w) (ew:w.d= .int n):wpAny (model X.prog X.w) A (call (.ref f) [u]) (fun z s'=>∃t H',z= .int n t∧Same H H'∧Inv X zd σ H' s') (fun _ _=>False) s:=by
 have e0:Env0 X.prog X.w X.K X.mg X.base A X.stack s H:=⟨hA.trans I.ok.frames,I.ok.mod,I.bs,Nat.le_trans I.ok.bsz I.sz,I.stack,I.stkFree,I.hok,I.bare⟩;have sp:spX X.K 1 F [v] H (fun v' H'=>v'= .int n∧Same H H') fun _ _ _=>False:=⟨rfl,fun _=>none, [d],(fun _ _ z=>nomatch z), .cons (hv _) .nil,by
  rw [e];refine WP.intro fun v' G' H' st r=> ?_;rw [ew] at r;cases r;exact⟨rfl,st.hh⟩⟩
 have hl:([u]:List Value).length=ps.length:=by
  have:=ok.len _ _ _ _ sp;simpa using this
 have hb':=hb s [u] I.kIn (by rw [List.append_nil];exact hl);rw [List.append_nil] at hb';refine wpAny_call (codeAny_mono (ok.run A X.stack s H ⟨[u], []⟩ [u] [v] _ _ hr e0 hb' (.cons rv .nil) sp) fun r s' hq=> ?_);cases r with
 |error e=>
  obtain⟨_,_,_,_,_,_,_,_,_,_,_,_,_,_,_,z⟩:=hq;exact z
 |ok fl=>
  cases fl with
  |ret z=>
   obtain⟨v',H',I',rv',rfl,sm⟩:=I.after hq;obtain⟨t,rfl⟩:=rv';exact⟨t,H',rfl,sm,I'⟩
  |next=>exact False.elim hq
  |brk=>exact False.elim hq
  |cont=>exact False.elim hq
end
theorem dj_4{h:Heap}{a:Addr}{m m':Str→Option Value}(x:h.Ns a m)(y:h.Ns a m'):m=m':=by
 obtain⟨o,es,ep,ho,hd,_,e⟩:=x;obtain⟨o',es',ep',ho',hd',_,e'⟩:=y;rw [ho] at ho';cases ho';rw [hd] at hd';cases hd'
 funext z
 rw [←e z,←e' z]
section
variable{X:Cx}{zd:List (Addr×Obj)}{σ:Sg}{H:Hp}{s:Shared}
def as_1(h:Heap)(L b c:Addr):List (Addr×Obj):=(List.range h.objs.size).filterMap fun i=>if i=L∨i=b∨i=c then none else(h.get? i).map fun o=>(i,o)
theorem cf_8{h:Heap}{L b c i:Addr}{o:Obj}(e:h.get? i=some o)(n:¬(i=L∨i=b∨i=c)):(i,o)∈as_1 h L b c:=by
 unfold as_1;refine List.mem_filterMap.mpr ⟨i,List.mem_range.mpr (Heap.lt_size e), ?_⟩;rw [if_neg n,e];rfl
theorem ab_0{h:Heap}{L b c:Addr}{p:Addr×Obj}(e:p∈as_1 h L b c):h.get? p.1=some p.2∧p.1≠L∧p.1≠b∧p.1≠c:=by
 unfold as_1 at e;obtain⟨i,_,q⟩:=List.mem_filterMap.mp e
 split at q
 ·cases q
 ·rename_i n;obtain⟨o,eo,rfl⟩:=Option.map_eq_some_iff.mp q;exact⟨eo,fun z=>n (.inl z),fun z=>n (.inr (.inl z)),fun z=>n (.inr (.inr z))⟩
theorem co_6{A:Around}{E:Value→Shared→Prop}{P:PySem.Fin→Shared→Prop}{a kS:Addr}{keys:Array Value}{e e1:Nat}{vs:List Value}{xs:List V}{kz:List Int}(I:Inv X ((kS,seqObj "list" keys e)::(a,seqObj "list" #[] e1)::zd) σ H s)(hka:kS≠a)(z1:X.s₀.heap.objs.size≤kS)(z2:X.s₀.heap.objs.size≤a)(np:∀p∈X.pn ++ zd,p.1≠kS∧p.1≠a)
  (hk:IntsAre keys.toList kz) (zk:kz.length=vs.length) (h64:vs.length < 64) (hv:Vals xs vs)
  (h:∀(s':Shared) (ps:List (Int×Value)) (us:List V),ps.Perm (kz.zip vs)→ps.Pairwise (fun p q=>p.1≤q.1)→Vals us (ps.map Prod.snd)→us.length=vs.length→(∀H',H'=upd H a (.lst us)→Inv X zd σ H' s')→P (.done (.ret .none)) s'):
  wpAny (model X.prog X.w) A (PyProof.Rows.ksk_end a false vs.toArray e1 (.ref kS) keys) P E s:=by
 have pk:=I.pin (kS,seqObj "list" keys e) (List.mem_append_right _ (.head _));have pa:=I.pin (a,seqObj "list" #[] e1) (List.mem_append_right _ (.tail _ (.head _)));obtain⟨m,hm,_⟩:=id I.loc;have I0:Inv X zd σ H s:=I.pins_of fun p hp=>I.pin p (List.mem_append_right _ (.tail _ (.tail _ hp)));refine PyProof.Rows.ksk_end_ (e:=e) (h₀:={objs:= #[]}) (L:=X.env.locals) (m:=m) (news:=as_1 s.heap X.env.locals kS a) ⟨hm,fun b o z=>by simp [Heap.get?] at z,Nat.zero_le _⟩ (fun p hp=> ?_) hka (fun p hp=>(ab_0 hp).2.2.1) (fun p hp=>(ab_0 hp).2.2.2) hk zk h64 fun h' tk out c F' N' ko=> ?_
 ·rcases List.mem_append.mp hp with hp|hp
  ·exact⟨(ab_0 hp).1,(ab_0 hp).2.1,by simp [Heap.get?]⟩
  ·rcases List.mem_cons.mp hp with rfl|hp
   ·exact⟨pk.1,pk.2.2.1,by simp [Heap.get?]⟩
   ·rw [List.mem_singleton.mp hp];exact⟨pa.1,pa.2.2.1,by simp [Heap.get?]⟩
 ·obtain⟨ps,pm,eo,srt⟩:=ko;have hat:h'.get? a=some (seqObj "list" out c):=(N' _ (.head _)).1;have kp:∀b o,b≠X.env.locals→b≠kS→b≠a→s.heap.get? b=some o→h'.get? b=some o:=fun b o n1 n2 n3 e=>(N' (b,o) (.tail _ (cf_8 e (by rintro (z|z|z) <;> contradiction)))).1;have hlz:ps.length=vs.length:=by rw [pm.length_eq,List.length_zip,zk,Nat.min_self]
  obtain⟨us,hu⟩:∃us,Vals us (ps.map Prod.snd):=by
   have all:∀(l:List (Int×Value)),(∀p∈l,∃x,RelV x p.2)→∃us,Vals us (l.map Prod.snd):=by
    intro l
    induction l with
    |nil=>intro _;exact⟨[], .nil⟩
    |cons p l ih=>
     intro hl;obtain⟨x,hx⟩:=hl p (.head _);obtain⟨us,hus⟩:=ih fun q hq=>hl q (.tail _ hq);exact⟨x::us, .cons hx hus⟩
   refine all ps fun p hp=> ?_;have hz:=List.of_mem_zip (pm.mem_iff.mp hp);obtain⟨i,hi,ei⟩:=List.getElem_of_mem hz.2;obtain⟨x,_,r⟩:∃x,xs[i]? =some x∧RelV x p.2:=by
    have hix:i < xs.length:=by rw [hv.length];exact hi
    obtain⟨u,e1,e2⟩:=hv.get (List.getElem?_eq_getElem hix);rw [List.getElem?_eq_getElem hi,ei] at e1;cases e1;exact⟨_,List.getElem?_eq_getElem hix,e2⟩
   exact⟨x,r⟩
  have hul:us.length=vs.length:=by rw [hu.length,List.length_map];exact hlz
  refine h _ ps us pm (srt.imp fun{p q} z=>by simpa using z) hu hul fun H' eH=> ?_;subst eH;have nH:∀b u,H b=some u→b≠kS∧b≠a∧b≠X.env.locals:=fun b u e=>⟨(fun z=>by rw [z,pk.2.1] at e;cases e),(fun z=>by rw [z,pa.2.1] at e;cases e),(fun z=>by rw [z,I.free] at e;cases e)⟩;have upH:∀b u,H b=some u→upd H a (.lst us) b=some u:=fun b u e=>by rw [a_5 (nH b u e).2.1];exact e
  refine I0.step (g':=s.gens) (d':=s.drawn) (ch:= [kS,a]) (fun b hb=> ?_) (fun b o n1 _ n3 e _=>kp b o n1 (fun z=>n3 (by simp [z])) (fun z=>n3 (by simp [z])) e) (fun b o n1 _ n3 e _=>⟨o.slots,kp b o n1 (fun z=>n3 (by simp [z])) (fun z=>n3 (by simp [z])) e⟩) (fun b o n3 _ n=>by rw [a_5 fun z=>n3 (by simp [z])];exact n)
   (fun b o n3 e=> ?_) (fun b xs e=>upH b _ e) (fun b o u e=>upH b _ e) (fun b ps e=>⟨#[],by rw [upH b _ e];simp⟩) (fun m' hm'=>by rw [←dj_4 hm hm'];exact F'.ns) (fun b u e=> ?_) I.bare
  ·have hb':b=kS∨b=a:=by simpa using hb
   have cl:∀{q:Addr×Obj},q∈((kS,seqObj "list" keys e)::(a,seqObj "list" #[] e1)::zd)→∀x c,X.env.cells.lookup x=some c→c≠q.1:=fun{q} hq x c hc z=>by
    obtain⟨v,o,ho,hd⟩:=I.cell x c hc;have:=I.pin q (List.mem_append_right _ hq);rw [z,this.1] at ho;cases ho;exact this.2.2.2.2 v hd
   rcases hb' with rfl|rfl
   ·exact⟨.inr z1,pk.2.2.1,cl (.head _),fun p hp=>(np p hp).1⟩
   ·exact⟨.inr z2,pa.2.2.1,cl (.tail _ (.head _)),fun p hp=>(np p hp).2⟩
  ·by_cases z:b=X.env.locals
   ·subst z;obtain⟨o',_,_,ho',_⟩:=F'.ns;exact⟨o',ho'⟩
   ·exact⟨o,kp b o z (fun z=>n3 (by simp [z])) (fun z=>n3 (by simp [z])) e⟩
  ·by_cases z:b=a
   ·subst z;rw [a_9] at e;cases e;exact⟨by rw [hul,sizeLine_eq];omega,ps.map Prod.snd,c,hu,by rw [←eo];simpa using hat⟩
   ·rw [a_5 z] at e;obtain⟨n1,n2,n3⟩:=nH b u e;refine(I.hok b u e).stay (fun b' o' hc q=> ?_) (fun b' q=>upH b' _ q) fun b' xs q=>upH b' _ q;rcases hc with rfl|hc
    ·exact kp _ _ n3 n1 n2 q
    ·obtain⟨k1,k2,k3⟩:=nH b' _ hc;exact kp _ _ k3 k1 k2 q
end
section
variable{X:Cx}{zd:List (Addr×Obj)}{σ:Sg}{H:Hp}{s:Shared}
theorem cf_9{A:Around}{E:Value→Shared→Prop}{P:PySem.Fin→Shared→Prop}{a:Addr}{n k:Nat}{vs:List Value}{xs:List V}{ds:List D}{kz:List Int}{F:List D→R W}{f:Addr}{ps:List Str}(I:Inv X zd σ H s)(ho:s.heap.get? a=some (seqObj "list" vs.toArray n))(ha0:H a=none)(haz:X.s₀.heap.objs.size≤a)(haL:a≠X.env.locals)
  (hac:∀x c,X.env.cells.lookup x=some c→c≠a) (hap:∀p∈X.pn ++ zd,p.1≠a) (haf:a∉X.fs) (hv:Vals xs vs) (hx:∀(i:Nat) v d,xs[i]? =some v→ds[i]? =some d→∀G,Has X.K G v d) (hdl:ds.length=vs.length)
  (hkz:∀(i:Nat) d k,ds[i]? =some d→kz[i]? =some k→∃w,F [d]= .ok w∧w.d= .int k) (zk:kz.length=vs.length) (h64:vs.length < 64)
  (ok:FnX X.prog X.w X.K X.mg X.base true k f fd ps (spX X.K 1 F)) (hb:Binds X.K fd ps []) (hA:A.frames=X.A.frames) (hr:RoomC true k A)
  (h:∀(s':Shared) (H':Hp) (ps:List (Int×Value)) (us:List V),Same H H'→H' a=none→ps.Perm (kz.zip vs)→ps.Pairwise (fun p q=>p.1≤q.1)→Vals us (ps.map Prod.snd)→us.length=vs.length→Inv X zd σ (upd H' a (.lst us)) s'→P (.done (.ret .none)) s'):
  wpAny (model X.prog X.w) A (PyProof.Rows.ksk_tree a (.ref f) false) P E s:=by
 have ha:a < s.heap.objs.size:=Heap.lt_size ho;have s1:=Heap.SameBut.update s.heap a (Obj.mapSeq fun _=>(#[]:Array Value));obtain⟨e1,ho1⟩:∃e1,(s.heap.update a (Obj.mapSeq fun _=>(#[]:Array Value))).get? a=some (seqObj "list" #[] e1):=⟨_,get?_update_seq ho fun _=> #[]⟩;have hkS:((s.heap.update a (Obj.mapSeq fun _=>(#[]:Array Value))).push (seqObj "tuple" vs.toArray 0)).objs.size=s.heap.objs.size + 1:=by rw [size_push',Heap.size_update]
 generalize hq:((s.heap.update a (Obj.mapSeq fun _=>(#[]:Array Value))).push (seqObj "tuple" vs.toArray 0)).objs.size=kS at hkS;have hka:kS≠a:=by rw [hkS];exact Nat.ne_of_gt (Nat.lt_succ_of_lt ha)
 have z1:X.s₀.heap.objs.size≤kS:=by rw [hkS];exact Nat.le_succ_of_le I.sz
 have npk:∀p∈X.pn ++ zd,p.1≠kS:=fun p hp z=>by
  have:=Heap.lt_size (I.pin p hp).1;rw [z,hkS] at this;exact absurd this (Nat.not_lt.mpr (Nat.le_succ _))
 have I1:Inv X zd σ H {s with heap:=s.heap.update a (Obj.mapSeq fun _=>(#[]:Array Value))}:=I.turned (t':=s.toks) (fun b o hb e=>(s1.2 b hb).trans e) ha0 haL (.inr haz) hac hap;have I2:Inv X zd σ H {s with heap:=((s.heap.update a (Obj.mapSeq fun _=>(#[]:Array Value))).push (seqObj "tuple" vs.toArray 0)).push (seqObj "list" #[] 0)}:=I1.kept (t':=s.toks) fun b o e=>Heap.get?_push_of_some _ (Heap.get?_push_of_some _ e);have hk0:H kS=none:=I.hok.fresh (by rw [hkS];exact Nat.le_succ _);have hkL:kS≠X.env.locals:=fun z=>by have:=I.lt;rw [←z,hkS] at this;exact absurd this (Nat.not_lt.mpr (Nat.le_succ _))
 have hkf:kS∉X.fs:=I.nofs (by rw [hkS];exact Nat.le_succ _);have nc:∀(l:Array Value) (e:Nat) v,(seqObj "list" l e).data≠ .cell v:=fun l e v z=>by cases z
 let J:Nat→Array Value→Shared→Prop:=fun _ kA s'=>∃H' e,Same H H'∧Inv X ((kS,seqObj "list" kA e)::(a,seqObj "list" #[] e1)::zd) σ H' s'
 have av:∀{kA:Array Value} {e:Nat} {H':Hp} {s':Shared},Inv X zd σ H' s'→s'.heap.get? kS=some (seqObj "list" kA e)→s'.heap.get? a=some (seqObj "list" #[] e1)→H' kS=none→H' a=none→Inv X ((kS,seqObj "list" kA e)::(a,seqObj "list" #[] e1)::zd) σ H' s':=fun{kA e H' s'} J0 g1 g2 n1 n2=>by
  refine J0.pins_of fun p hp=> ?_;rcases List.mem_cons.mp hp with rfl|hp
  ·exact⟨g1,n1,hkL,hkf,nc _ _⟩
  ·rcases List.mem_cons.mp hp with rfl|hp
   ·exact⟨g2,n2,haL,haf,nc _ _⟩
   ·exact J0.pin p (List.mem_append_right _ hp)
 unfold PyProof.Rows.ksk_tree;refine wpAny_bind (listItems_at ho rfl ?_);refine wpAny_bind (listUpdate_at ho rfl ?_ (by rw [List.size_toArray,sizeLine_eq];omega) (Nat.zero_le _));refine wpAny_bind (seqEpoch_at ho1 rfl ?_);refine wpAny_bind (wpAny_newTuple ?_ (by show vs.length≤_;rw [sizeLine_eq];omega));refine wpAny_bind (wpAny_newList ?_ (Nat.zero_le _));refine wpAny_holding ?_;show wpAny _ A (PyProof.Rows.ksk_rest a (.ref f) false vs.toArray e1 (.ref ((s.heap.update a (Obj.mapSeq fun _=>(#[]:Array Value))).push (seqObj "tuple" vs.toArray 0)).objs.size)) P E _;rw [hq];refine PySem.W.ksk_restJ (kz:=kz) J ?_ zk h64 (fun i v kk kA s' ev ek hJ=> ?_) (fun i kA s' hJ=> ?_) fun kA s' hJ hk=> ?_
 ·refine⟨H,0,Same.refl _,av I2 ?_ (Heap.get?_push_of_some _ (Heap.get?_push_of_some _ ho1)) hk0 ha0⟩;rw [←hq];exact Heap.get?_push_size _ rfl
 ·obtain⟨H1,e,sm,J1⟩:=hJ;have hi:i < vs.length:=(List.getElem?_eq_some_iff.mp ev).1;have hix:i < xs.length:=by rw [hv.length];exact hi
  obtain⟨u,eu,ru⟩:=hv.get (List.getElem?_eq_getElem hix);rw [ev] at eu;cases eu;have hid:i < ds.length:=by rw [hdl];exact hi
  obtain⟨w,ew,en⟩:=hkz i _ kk (List.getElem?_eq_getElem hid) ek;refine wpAny_mono (cz_6 ok hb J1 hA hr ru (hx i _ _ (List.getElem?_eq_getElem hix) (List.getElem?_eq_getElem hid)) ew en) (fun z s2 hz=> ?_) fun _ _ z=>z;obtain⟨t,H2,rfl,sm2,J2⟩:=hz;have pk:=J2.pin (kS,seqObj "list" kA e) (List.mem_append_right _ (.head _));have pa:=J2.pin (a,seqObj "list" #[] e1) (List.mem_append_right _ (.tail _ (.head _)));refine⟨t,e,rfl,pk.1, ?_⟩;have J3:Inv X zd σ H2 s2:=J2.pins_of fun p hp=>J2.pin p (List.mem_append_right _ (.tail _ (.tail _ hp)));have sb:=Heap.SameBut.update s2.heap kS (Obj.mapSeq (·.push (.int kk t)));have cl:∀x c,X.env.cells.lookup x=some c→c≠kS:=fun x c hc z=>by
   obtain⟨v,o,ho,hd⟩:=J2.cell x c hc;rw [z,pk.1] at ho;cases ho;exact pk.2.2.2.2 v hd
  have J4:Inv X zd σ H2 {s2 with heap:=s2.heap.update kS (Obj.mapSeq (·.push (.int kk t)))}:=J3.turned (t':=s2.toks) (fun b o hb e=>(sb.2 b hb).trans e) pk.2.1 hkL (.inr z1) cl npk;exact⟨H2,_,sm.trans sm2,av J4 (get?_update_seq pk.1 (·.push (.int kk t))) ((sb.2 a hka.symm).trans pa.1) pk.2.1 pa.2.1⟩
 ·obtain⟨H1,e,sm,J1⟩:=hJ;exact⟨e,(J1.pin (kS,seqObj "list" kA e) (List.mem_append_right _ (.head _))).1⟩
 ·obtain⟨H1,e,sm,J1⟩:=hJ;have pa:=J1.pin (a,seqObj "list" #[] e1) (List.mem_append_right _ (.tail _ (.head _)));exact co_6 J1 hka z1 haz (fun p hp=>⟨npk p hp,hap p hp⟩) hk zk h64 hv fun s3 ps us pm srt hu hul J=>h s3 H1 ps us sm pa.2.1 pm srt hu hul (J _ rfl)
end
theorem aj_2(p:Int×D):∀l:List (Int×D),(insK p l).Perm (p::l)
 | []=> .refl _
 |q::r=>by
  unfold insK
  split
  ·exact .refl _
  ·exact(List.Perm.cons q (aj_2 p r)).trans (List.Perm.swap p q r)
theorem ae_1:∀l:List (Int×D),(ar_8 l).Perm l
 | []=> .refl _
 |p::r=>(aj_2 p (ar_8 r)).trans (.cons p (ae_1 r))
theorem ak_8(p:Int×D):∀{l:List (Int×D)},l.Pairwise (fun a b=>a.1≤b.1)→(insK p l).Pairwise (fun a b=>a.1≤b.1)
 | [],_=>by unfold insK;simp
 |q::r,h=>by
  rw [List.pairwise_cons] at h;unfold insK
  split
  ·rename_i hl;refine List.pairwise_cons.mpr ⟨fun z hz=> ?_,List.pairwise_cons.mpr h⟩;rcases List.mem_cons.mp hz with rfl|hz
   ·exact hl
   ·exact Int.le_trans hl (h.1 z hz)
  ·rename_i hl;refine List.pairwise_cons.mpr ⟨fun z hz=> ?_,ak_8 p h.2⟩;rcases List.mem_cons.mp ((aj_2 p r).mem_iff.mp hz) with rfl|hz
   ·omega
   ·exact h.1 z hz
theorem ag_6:∀l:List (Int×D),(ar_8 l).Pairwise (fun a b=>a.1≤b.1)
 | []=> .nil
 |p::r=>ak_8 p (ag_6 r)
theorem as_2{α β:Type}{R:α→β→Prop}{a:α}:∀{A:List α} {B:List β},Paired R A B→a∈A→∃l1 l2 m1 m2 b,A=l1 ++ a::l2∧B=m1 ++ b::m2∧R a b∧Paired R (l1 ++ l2) (m1 ++ m2)
 |_,_, .cons (a:=x) (b:=y) (l₁:=A) (l₂:=B) r t,h=>by
  by_cases e:a=x
  ·subst e;exact⟨[],A, [],B,y,rfl,rfl,r,t⟩
  ·rcases List.mem_cons.mp h with z|h
   ·exact absurd z e
   ·obtain⟨l1,l2,m1,m2,b,rfl,rfl,rb,pr⟩:=as_2 t h;exact⟨x::l1,l2,y::m1,m2,b,rfl,rfl,rb, .cons r pr⟩
theorem ak_9{α β:Type}{R:Int×α→Int×β→Prop}(hR:∀p q,R p q→p.1=q.1):∀{A:List (Int×α)} {A0:List (Int×α)} {B0 B:List (Int×β)},Paired R A0 B0→A.Perm A0→B.Perm B0→(B0.map (·.1)).Nodup→A.Pairwise (fun p q=>p.1≤q.1)→B.Pairwise (fun p q=>p.1≤q.1)→Paired R A B
 | [],A0,B0,B,r,pa,pb,_,_,_=>by
  have:A0= []:=pa.symm.eq_nil;subst this;cases r;have:B= []:=pb.eq_nil;subst this;exact .nil
 |a::A,A0,B0,B,r,pa,pb,nd,sa,sb=>by
  obtain⟨l1,l2,m1,m2,b,rfl,rfl,rb,pr⟩:=as_2 r (pa.mem_iff.mp (.head _));have pa':A.Perm (l1 ++ l2):=(List.perm_cons a).mp (pa.trans List.perm_middle);have bB:b∈B:=pb.mem_iff.mpr (by simp);rw [List.pairwise_cons] at sa;cases B with
  |nil=>cases bB
  |cons c B=>
   rw [List.pairwise_cons] at sb;have fq:∀z∈m1 ++ m2,a.1≤z.1:=fun z hz=>by
    have:∀{A:List (Int×α)} {B:List (Int×β)},Paired R A B→∀z∈B,∃y∈A,y.1=z.1:=fun{A B} p=>by
     induction p with
     |nil=>intro z hz;cases hz
     |cons rr _ ih=>
      intro z hz;rcases List.mem_cons.mp hz with rfl|hz
      ·exact⟨_, .head _,hR _ _ rr⟩
      ·obtain⟨y,hy,e⟩:=ih z hz;exact⟨y, .tail _ hy,e⟩
    obtain⟨y,hy,e⟩:=this pr z hz;rw [←e];exact sa.1 y (pa'.mem_iff.mpr hy)
   have eb:a.1=b.1:=hR _ _ rb;have cb:c=b:=by
    have hc:c∈m1 ++ b::m2:=pb.mem_iff.mp (.head _);have hc':c=b∨c∈m1 ++ m2:=by
     rcases List.mem_append.mp hc with h|h
     ·exact .inr (List.mem_append_left _ h)
     ·rcases List.mem_cons.mp h with h|h
      ·exact .inl h
      ·exact .inr (List.mem_append_right _ h)
    rcases hc' with h|h
    ·exact h
    ·exfalso;have h1:=fq c h;have h2:c.1≤b.1:=by
      rcases List.mem_cons.mp bB with z|z
      ·rw [z];exact Int.le_refl _
      ·exact sb.1 b z
     have h3:c.1=b.1:=by omega
     have nd':((b::(m1 ++ m2)).map (·.1)).Nodup:=(List.Perm.map _ (List.perm_middle (a:=b) (l₁:=m1) (l₂:=m2))).nodup_iff.mp nd;rw [List.map_cons,List.nodup_cons] at nd';exact nd'.1 (by rw [←h3];exact List.mem_map_of_mem h)
   subst cb;have pb':B.Perm (m1 ++ m2):=(List.perm_cons c).mp (pb.trans List.perm_middle);have nd':((m1 ++ m2).map (·.1)).Nodup:=by
    have nd':((c::(m1 ++ m2)).map (·.1)).Nodup:=(List.Perm.map _ (List.perm_middle (a:=c) (l₁:=m1) (l₂:=m2))).nodup_iff.mp nd;rw [List.map_cons,List.nodup_cons] at nd';exact nd'.2
   exact .cons rb (ak_9 hR pr pa' pb' nd' sa.2 sb.2)
theorem az_0{F:List D→R W}:∀{ds:List D} {ps:List (Int×D)},w_3 F ds= .ok ps→Paired (fun d (p:Int×D)=>p.2=d∧∃w,F [d]= .ok w∧w.d= .int p.1) ds ps
 | [],_,e=>by cases e;exact .nil
 |d::ds,ps,e=>by
  unfold w_3 at e;cases ef:F [d] with
  |ok w=>
   rw [ef] at e;simp only [R.bind_ok] at e;cases ew:w.d with
   |int n=>
    rw [ew] at e;simp only at e;cases er:w_3 F ds with
    |ok r=>rw [er] at e;cases e;exact .cons ⟨rfl,w,ef,ew⟩ (az_0 er)
    |ex x=>rw [er] at e;cases e
    |no=>rw [er] at e;cases e
   |_=>rw [ew] at e;cases e
  |ex x=>rw [ef] at e;cases e
  |no=>rw [ef] at e;cases e
theorem co_7{k:Key}{u:Value}(r:RelV v u)(q:RelV (kV k) u):v=kV k:=by
 cases k with
 |inl i=>
  obtain⟨t,rfl⟩:=q;cases v with
  |int j=>obtain⟨t',e⟩:=r;cases e;rfl
  |str x=>obtain⟨t',e⟩:=r;cases e
  |byt x=>obtain⟨t',e⟩:=r;cases e
  |flt x=>obtain⟨t',e⟩:=r;cases e
  |_=>cases r
 |inr x=>
  obtain⟨t,rfl⟩:=q;cases v with
  |str y=>obtain⟨t',e⟩:=r;cases e;rfl
  |int j=>obtain⟨t',e⟩:=r;cases e
  |byt x=>obtain⟨t',e⟩:=r;cases e
  |flt x=>obtain⟨t',e⟩:=r;cases e
  |_=>cases r
abbrev RelK(p:Int×Value)(q:Int×D):Prop:=p.1=q.1∧∃k0,q.2=kD k0∧RelV (kV k0) p.2
theorem zipR{F:List D→R W}:∀{ks:List Key} {vs:List Value} {ps:List (Int×D)},Vals (ks.map kV) vs→Paired (fun d (p:Int×D)=>p.2=d∧∃w,F [d]= .ok w∧w.d= .int p.1) (ks.map kD) ps→Paired RelK ((ps.map (·.1)).zip vs) ps
 | [],_,_,r,q=>by cases r;cases q;exact .nil
 |k::ks,_,_,r,q=>by
  rw [List.map_cons] at r q;cases r with
  |cons h t=>
   cases q with
   |cons h2 t2=>exact .cons ⟨rfl,k,h2.1,h⟩ (zipR t t2)
theorem outR{G:Hp}:∀{ps:List (Int×Value)} {qs:List (Int×D)} {us:List V},Paired RelK ps qs→Vals us (ps.map Prod.snd)→HasL K G us (qs.map (·.2))
 | [],_,_,r,h=>by cases r;cases h;exact .nil
 |p::ps,_,_,r,h=>by
  rw [List.map_cons] at h;cases r with
  |cons r t=>
   cases h with
   |cons hv ht=>
    obtain⟨_,k0,e,rk⟩:=r;rw [List.map_cons,e];exact .cons (by rw [co_7 hv rk];exact bd_0 k0) (outR t ht)
theorem Paired.getL{α β:Type}{R:α→β→Prop}:∀{A:List α} {B:List β} {i:Nat} {a:α} {b:β},Paired R A B→A[i]? =some a→B[i]? =some b→R a b
 |_,_,_,_,_, .nil,e,_=>by simp at e
 |_,_,0,_,_, .cons r _,e,e'=>by
  simp at e e';subst e e';exact r
 |_,_,i + 1,_,_, .cons _ t,e,e'=>Paired.getL (i:=i) t (by simpa using e) (by simpa using e')
section
variable{X:Cx}{EX:EXS}{pos:Pos}
theorem cg_0{zd:List (Addr×Obj)}{σ:Sg}{G H:Hp}{s:Shared}{Q:VK}{a f:Addr}{k k':Nat}{ps:List Str}{F:List D→R W}{kvs:List (Key×V)}{kds:List (Key×D)}(hc:X.calm=true)(I:Inv X zd σ H s)(g:Same G H)(rd:Rd G a (.dK kvs))(hk:kvs.map (·.1)=kds.map (·.1))
  (ok:FnX X.prog X.w X.K X.mg X.base true k f fd ps (spX X.K 1 F)) (hb:Binds X.K fd ps []) (hr:RoomC true k' X.A) (hkk:k + 1≤k') (o:Out X.K EX0 G H (ar_9 F (kds.map fun p=>kD p.1)) Q):
  wpAny (model X.prog X.w) X.A (call (.builtin "sorted") [.ref a] [(Str.ofString "key", .ref f)]) (EP X zd σ Q) X.xe s:=by
 unfold ar_9 at o;cases eK:w_3 F (kds.map fun p=>kD p.1) with
 |ex x=>rw [eK] at o;exact False.elim o
 |no=>rw [eK] at o;exact False.elim o
 |ok psD=>
  rw [eK] at o;simp only at o
  split at o
  ·rename_i hcond;obtain⟨h64,nd⟩:=hcond;have pK:=az_0 eK;have hkl:kds.length=kvs.length:=by
    have:=congrArg List.length hk;rw [List.length_map,List.length_map] at this;exact this.symm
   have hpl:psD.length=kvs.length:=by
    rw [←Paired.length pK,List.length_map];exact hkl
   have ekd:(kds.map fun p=>kD p.1)=(kvs.map (·.1)).map kD:=by rw [hk,List.map_map];rfl
   obtain⟨z,lo,ws,kv,dd⟩:=t_0 I.hok (Same.rdD g rd);obtain⟨ep,da⟩:=dd.dictAt;refine call_function_entry_kw kind_sorted plain_sorted entry_sorted (ksk_s1 _ _) ?_;unfold Builtin.«sorted»;refine wpAny_bind (m:=checkCount "sorted" 1 1 _) (wpAny_pure ?_);refine wpAny_bind (PySem.W.collect_kdl (A:=X.A.in1) (kdl_dict lo) (I.ok.hd hc) da (by rw [←kv.length];exact z) fun h1 tk1 zn kk le it=> ?_);have rv':Vals ((kvs.map (·.1)).map kV) zn.toList:=ai_5 kv (by rw [Array.length_toList];exact it.1) fun j v e=>it.2 j v (by rw [←Array.getElem?_toList];exact e);have hal:zn.toList.length=kvs.length:=by rw [←rv'.length,List.length_map,List.length_map]
   refine wpAny_bind (wpAny_newList ?_ (by rw [hal];exact z));have new:(h1.push (seqObj "list" zn.toList.toArray 0)).get? h1.objs.size=some (seqObj "list" zn.toList.toArray 0):=Heap.get?_push_size _ rfl;have I0:Inv X zd σ H {s with heap:=h1,toks:=tk1}:=I.kept (t':=tk1) kk;have I1:Inv X zd σ H {s with heap:=h1.push (seqObj "list" zn.toList.toArray 0),toks:=tk1}:=I0.kept (t':=tk1) fun b u e=>Heap.get?_push_of_some _ e;have fr:H h1.objs.size=none:=I.hok.fresh le;refine wpAny_bind (wpAny_holding (wpAny_call_entry_kw slot_list_sort ⟨_,new,rfl⟩ entry_list_sort ?body (ksk_l1 _ _)))
   case body=>
    show wpAny (model X.prog X.w) X.A.in1.in1 (Builtin.«list.sort» ⟨[.ref h1.objs.size], [(Str.ofString "key", .ref f)]⟩) _ _ _;rw [ksk_t1];have hr':RoomC true k X.A.in1.in1:=⟨hr.hd,by have:=hr.dp;show X.A.depth + 3 * k + 5 < _;omega,by have:=hr.un;show X.A.units + 1 + 1 + 16 * k + 200 < _;omega⟩;refine cf_9 (kz:=psD.map (·.1)) (ds:=kds.map fun p=>kD p.1) (F:=F) I1 new fr (Nat.le_trans I.sz le) (fun z=> ?_) (fun x c e z=> ?_) (fun p hp z=> ?_) (I0.nofs (Nat.le_refl _)) rv' (fun i v d e1 e2 G'=> ?_) (by rw [List.length_map,hal];exact hkl) (fun i d kx e1 e2=> ?_) (by rw [List.length_map,hal];exact hpl) (by rw [hal,←hpl];exact h64) ok hb rfl hr' fun s' H' ps us sm na pm srt hu hul J=> ?_
    ·have:=I0.lt;rw [←z] at this;exact absurd this (Nat.lt_irrefl _)
    ·obtain⟨v,hv⟩:=I0.cell x c e;have:=hv.lt;rw [z] at this;exact absurd this (Nat.lt_irrefl _)
    ·have:=Heap.lt_size (I0.pin p hp).1;rw [z] at this;exact absurd this (Nat.lt_irrefl _)
    ·rw [ekd,List.getElem?_map] at e2;rw [List.getElem?_map] at e1;cases ek:(kvs.map (·.1))[i]? with
     |none=>rw [ek] at e1;cases e1
     |some k0=>rw [ek] at e1 e2;cases e1;cases e2;exact bd_0 k0
    ·rw [List.getElem?_map] at e2;cases ep2:psD[i]? with
     |none=>rw [ep2] at e2;cases e2
     |some p=>
      rw [ep2] at e2;cases e2;exact(Paired.getL pK e1 ep2).2
    ·refine⟨_,rfl,wpAny_pure ⟨_,rfl, .ref h1.objs.size,_,J,rfl, ?_⟩⟩;rw [ekd] at pK;have pr:=ak_9 (R:=RelK) (fun p q r=>r.1) (zipR rv' pK) pm (ae_1 psD) nd srt (ag_6 psD);refine(show WP X.K G H (.ow (.lst ((ar_8 psD).map (·.2)))) Q from o) (.ref h1.objs.size) (fun b=>b=h1.objs.size) G _ ⟨fun b u e=> ?_,fun b u e=> ?_,Same.refl _,fun _ n _=>n⟩ (fun b e=> ?_) (Ow.list a_9 rfl (outR pr hu))
     ·rw [a_5 (b_9 e fr)];exact sm b u e
     ·rw [a_5 (b_9 (g b u e) fr)];exact sm b u (g b u e)
     ·subst e;exact⟨fr,g.free fr,by rw [a_9];simp⟩
  ·exact False.elim o
theorem co_8{o:Expr}{f:FE}{x:Str}{k k':Nat}{y:Str}{F:List D→R W}{p p2 p3:Pos}(hc:X.calm=true)(hr:RoomC true k' X.A)(hm:X.mg "sorted" =none)(h:FnD X.prog X.w X.K X.mg X.base true x k [y] F)(he:ED X EX o f)(hk:k + 1≤k':=by decide)(hg:Gl X "sorted" :=by rfl)(hgx:Gl X x:=by rfl)(hdb:(x ==("__debug__" :Str))=false:=by decide)
  (hs1:starEach [o] X.env=(false,eval o X.env)::starEach [] X.env:=by rfl) (hb1:backTo pos (starEach [o] X.env)=(false,eval o X.env)::backTo pos (starEach [] X.env):=by rfl) (hpl:(backTo pos (starEach [o] X.env)).any (·.1)=false:=by rfl)
  (ba:(backToKw pos (keywordEach [⟨some "key", .Name x p2,p3⟩] X.env)).all (·.1.isSome)=true:=by rfl) (hkw:(backToKw pos (keywordEach [⟨some "key", .Name x p2,p3⟩] X.env)).any (·.1.isNone)=false:=by rfl)
  (hnm:(backToKw pos (keywordEach [⟨some "key", .Name x p2,p3⟩] X.env)).filterMap (·.1)= [Str.ofString "key"]:=by rfl):
  ED X EX (.Call (.Name "sorted" p) [o] [⟨some "key", .Name x p2,p3⟩] pos) (as_0 F f):=by
 obtain⟨fa,fd,ok,hmx,kp,hb⟩:=h;intro zd s σ H Q I q;obtain⟨G,δ,g0,s0,q⟩:=q;have ta:cj_3 (tD X.K EX f) tNil σ H fun vs H1=>∃(G1:Hp) (a:Addr) (kvs:List (Key×V)) (kds:List (Key×D)),vs= [.ref a]∧Same G1 H1∧Rd G1 a (.dK kvs)∧kvs.map (·.1)=kds.map (·.1)∧Out X.K (EX σ) G1 H1 (ar_9 F (kds.map fun p=>kD p.1)) Q:=by
  refine tD.seq g0 s0 q fun w v G1 H1 _ st r o'=> ?_;revert o' r;cases w.d with
  |dic kds=>
   intro r o';cases r with
   |dic hr hk rr=>exact⟨G1,_,_,kds,rfl,st.gh,hr,hk,o'⟩
  |_=>intro _ o';exact False.elim o'
 refine wpAny_Call_Name_kw (ad_6 I hg hm PyProof.Rows.boot_sorted (callWith_kw (thn ((f_6 he m_7 hs1) pos zd s σ H _ I ta) fun us s1 ⟨vs,H1,I1,r1,G1,a,kvs,kds,ev,g1,rd,hkk,o'⟩=> ?_) hb1 hpl ba hkw));subst ev;obtain⟨u,rfl,ru⟩:=r1.one;cases ru;refine kws_cons (q_8 I1 hgx hmx (kws_nil ?_) hdb);rw [hnm];refine cg_0 hc I1 g1 rd hkk ok hb hr hk ?_;unfold ar_9 at o'⊢;cases eK:w_3 F (kds.map fun p=>kD p.1) with
 |ok psD=>
  rw [eK] at o';simp only at o'⊢
  split at o'
  ·rename_i hcond;rw [if_pos hcond];exact o'
  ·exact False.elim o'
 |ex x=>rw [eK] at o';exact False.elim o'
 |no=>rw [eK] at o';exact False.elim o'
end
def k_3:Sl→Bool
 | .no=>true
 | .sh d=>c_9 d
 | .ow d=>f_2 (Tn.of d)
 | .tr t=>f_2 t
 | .lk d=>f_2 (Tn.of d)
 | .lt t=>f_2 t
theorem bt_1{s:Sl}{t:Tn}(h:k_3 s=true)(e:s.own=some t):f_2 t=true:=by
 cases s with
 |no=>cases e
 |sh d=>cases e
 |_=>cases e;exact h
def bn_1(j:Nat)(g:SE→FM):SE→FM:=fun Δ=>match Δ[j]? with
 |some (.ow (.dic kds))=>(match g (Δ.set j (.sh (.dic kds))) with
  | .ok d Δ1=>if c_9 d=true∧(Δ1.set j .no).all k_3=true∧j < Δ1.length then .ok d (Δ1.set j (.ow (.dic kds))) else .no
  |_=> .no)
 |_=> .no
section
variable{X:Cx}{EX:EXS}{e:Expr}{g:SE→FM}
theorem cz_7(j:Nat)(he:EM X EX e g):EM X EX e (bn_1 j g):=PE.imp he fun σ H Q ⟨H0,G0,G,Δ,O,E,q⟩=>by
 unfold bn_1 at q
 split at q
 ·rename_i kds ej;have hjl:j < Δ.length:=by
   rcases Nat.lt_or_ge j Δ.length with h|h
   ·exact h
   ·rw [List.getElem?_eq_none h] at ej;cases ej
  obtain⟨v,ev,w⟩:=E.ow j _ _ ej rfl;have hle:(Tn.of (.dic kds)).lends=true:=by
   have:∀l:List (Key×D),Tn.lendsK (l.map fun p=>(p.1,Tn.sh p.2))=true:=fun l=>by
    induction l with
    |nil=>simp only [List.map_nil,Tn.lendsK]
    |cons p l ih=>simp only [List.map_cons,Tn.lendsK,Tn.lends,ih,Bool.and_self]
   show Tn.lends (.dic (kds.map fun p=>(p.1, .sh p.2)))=true;simp only [Tn.lends,this]
  obtain⟨S,hS,w'⟩:=w.lend hle;have jG:∀b,¬S b→e_7 G H S b=G b:=fun b h=>by unfold e_7;rw [if_neg h]
  have jH:∀b,S b→e_7 G H S b=H b:=fun b h=>by unfold e_7;rw [if_pos h]
  have nG:∀b,S b→G b=none:=fun b h=>(E.out j b (hS b h).1).1;have sg:Same G (e_7 G H S):=fun b o q=>by
   rw [jG b fun h=>by rw [nG b h] at q;cases q];exact q
  have E1:Ev X.K H0 G0 (e_7 G H S) H σ (Δ.set j (.sh (.dic kds))) (fun i b=>i≠j∧O i b):=by
   have gi:∀(i:Nat) (s:Sl),i≠j→(Δ.set j (.sh (.dic kds)))[i]? =some s→Δ[i]? =some s:=fun i s h q=>by
    rwa [List.getElem?_set_ne fun z=>h z.symm] at q
   have gj:(Δ.set j (.sh (.dic kds)))[j]? =some (.sh (.dic kds)):=by rw [List.getElem?_set_self hjl]
   refine⟨⟨E.st.hh,fun b o q=> ?_,E.st.gg.trans sg,fun b n z=> ?_⟩,by rw [List.length_set];exact E.len,fun i d q=> ?_,fun i s t q o=> ?_,fun i a ⟨h,ho⟩=> ?_,fun i k a ⟨_,h1⟩ ⟨_,h2⟩=>E.dj i k a h1 h2,fun i d q=> ?_,fun i t q=> ?_⟩
   ·by_cases hb:S b
    ·rw [jH b hb] at q;exact q
    ·rw [jG b hb] at q;exact E.st.gh b o q
   ·have hb:¬S b:=fun h=>z (E.out j b (hS b h).1).2.1;rw [jG b hb];exact E.st.nw b n z
   ·by_cases h:i=j
    ·subst h;rw [gj] at q;cases q;refine⟨v,ev, ?_⟩;have:=w'.has sg fun b o hb hq=>by rw [jH b hb];exact hq
     rwa [Tn.of_d] at this
    ·obtain⟨v,e1,r⟩:=E.sh i d (gi i _ h q);exact⟨v,e1,r.mono sg⟩
   ·by_cases h:i=j
    ·subst h;rw [gj] at q;cases q;cases o
    ·obtain⟨v,e1,r⟩:=E.ow i s t (gi i _ h q) o;exact⟨v,e1,r.mono sg (fun _ _ _ q=>q) fun b hb=>⟨h,hb⟩⟩
   ·have hb:¬S a:=fun z=>h (E.dj i j a ho (hS a z).1);rw [jG a hb];exact E.out i a ho
   ·by_cases h:i=j
    ·subst h;rw [gj] at q;cases q
    ·exact E.lk i d (gi i _ h q)
   ·by_cases h:i=j
    ·subst h;rw [gj] at q;cases q
    ·exact E.lt i t (gi i _ h q)
  refine⟨H0,G0,_,_,_,E1, ?_⟩;cases eg:g (Δ.set j (.sh (.dic kds))) with
  |ex x Δ1=>simp only [eg] at q;exact q.elim
  |no=>simp only [eg] at q;exact q.elim
  |ok d Δ1=>
   simp only [eg] at q
   split at q
   ·rename_i hc;obtain⟨pd,pa,hl1⟩:=hc;intro v2 G2 H2 O2 E2 s2 r2;have hk:∀b o,S b→G2 b=some o→m_2 o=true:=fun b o hb q=>by
     obtain⟨o',e1,l⟩:=(hS b hb).2;have:=s2 b o' (by rw [jH b hb];exact e1);rw [this] at q;cases q;exact l
    have h2:∀b o,S b→H b=some o→G2 b=some o:=fun b o hb q=>s2 b o (by rw [jH b hb];exact q);have s3:Same G (offQ G2 S):=fun b o q=>by
     rw [y_8 fun h=>by rw [nG b h] at q;cases q];exact s2 b o (sg b o q)
    have gi:∀(i:Nat) (s:Sl),i≠j→(Δ1.set j (.ow (.dic kds)))[i]? =some s→Δ1[i]? =some s∧k_3 s=true:=fun i s h q=>by
     rw [List.getElem?_set_ne fun z=>h z.symm] at q;refine⟨q,List.all_eq_true.mp pa s ?_⟩;have:(Δ1.set j .no)[i]? =some s:=by rw [List.getElem?_set_ne fun z=>h z.symm];exact q
     exact List.mem_of_getElem? this
    have gj:(Δ1.set j (.ow (.dic kds)))[j]? =some (.ow (.dic kds)):=by rw [List.getElem?_set_self hl1]
    refine q v2 (offQ G2 S) H2 (fun i b=>(i=j∧S b)∨(i≠j∧O2 i b)) ⟨⟨E2.st.hh,fun b o q=>E2.st.gh b o (offQ_sub b o q),E.st.gg.trans s3,fun b n z=> ?_⟩,by rw [List.length_set];exact E2.len,fun i d q=> ?_,fun i s t q o=> ?_,fun i a h=> ?_,fun i k a g1 g2=> ?_,fun i d q=> ?_,fun i t q=> ?_⟩ s3 (r2.offQ hk pd)
    ·exact offQ_sub.free (E2.st.nw b n z)
    ·by_cases h:i=j
     ·subst h;rw [gj] at q;cases q
     ·obtain⟨q,pl⟩:=gi i _ h q;obtain⟨v,e1,r⟩:=E2.sh i d q;exact⟨v,e1,r.offQ hk pl⟩
    ·by_cases h:i=j
     ·subst h;rw [gj] at q;cases q;cases o;exact⟨v,ev,w'.mono s3 (fun b o hb q=>E2.st.gh b o (h2 b o hb q)) fun b hb=> .inl ⟨rfl,hb⟩⟩
     ·obtain⟨q,pl⟩:=gi i _ h q;obtain⟨v,e1,r⟩:=E2.ow i s t q o;exact⟨v,e1,(r.offQ hk (bt_1 pl o)).mono (Same.refl _) (fun _ _ _ q=>q) fun b hb=> .inr ⟨h,hb⟩⟩
    ·rcases h with⟨rfl,h⟩|⟨_,h⟩
     ·obtain⟨o,e1,_⟩:=(hS a h).2;refine⟨an_8 h,(E.out _ a (hS a h).1).2.1, ?_⟩;rw [E2.st.gh a o (h2 a o h e1)];exact fun z=>by cases z
     ·have:=E2.out i a h;exact⟨offQ_sub.free this.1,this.2⟩
    ·have no:∀i,O2 i a→S a→False:=fun i h hs=>by
      obtain⟨o,e1,_⟩:=(hS a hs).2;have:=(E2.out i a h).1;rw [h2 a o hs e1] at this;cases this
     rcases g1 with⟨rfl,g1⟩|⟨_,g1⟩ <;> rcases g2 with⟨rfl,g2⟩|⟨_,g2⟩
     ·rfl
     ·exact(no _ g2 g1).elim
     ·exact(no _ g1 g2).elim
     ·exact E2.dj i k a g1 g2
    ·by_cases h:i=j
     ·subst h;rw [gj] at q;cases q
     ·exact E2.lk i d (gi i _ h q).1
    ·by_cases h:i=j
     ·subst h;rw [gj] at q;cases q
     ·exact E2.lt i t (gi i _ h q).1
   ·exact q.elim
 ·exact q.elim
end
end L3
namespace My
open PySem L2 L3
def az_1:FS:=
  (sSeq (sSet 2 [0,1] (eOp d_6 (eOp s_7 (eOp g_7 (eVar 0) (eC (.int 1))) (eOp g_7 (eC (.int 48271)) (eOp s_7 (eC (.int 118)) (eVar 1)))) (eC (.int 2147483629))))
  (sRet [1,2] (eOp d_6 (eOp g_7 (eOp g_7 (eOp s_7 (eOp n_4 (eVar 2) (eC (.int 977))) (eC (.int 16807))) (eOp s_7 (eVar 2) (eOp g_7 (eOp s_7 (eVar 1) (eVar 1)) (eC (.int 7))))) (eVar 1)) (eC (.int 2147483587)))))
def c_8:List D→R W:=bodyD 3 az_1
def as_3:FS:=
  (sSeq (sSet 2 [] (eC (.int 0)))
  (sSeq (sIf [0,1] (eTest (eOp ltD (eVar 1) (eCall lenD (aCons (eVar 0) aNil))))
   (sSet 2 [0,1] (eOp d_6 (eOp ixD (eVar 0) (eVar 1)) (eC (.int 2147483647))))
   sNil)
  (sRet [1,2] (eFn 2 c_8 (aCons (eVar 2) (aCons (eOp g_7 (eVar 1) (eC (.int 101))) aNil))))))
def i_3:List D→R W:=bodyD 3 as_3
def al_0:FS:=
  (sSeq (sSet 2 [0] (eFn 2 i_3 (aCons (eVar 0) (aCons (eC (.int 1)) aNil))))
  (sSeq (sSet 3 [1,2] (eOp g_7 (eC (.int 1)) (eOp d_6 (eVar 2) (eVar 1))))
  (sSeq (sSet 4 [2] (eOp ixD (eLst (aCons (eC (.int 0)) (aCons (eC (.int 1)) (aCons (eOp d_6 (eOp n_4 (eVar 2) (eC (.int 64))) (eC (.int 1000))) (aCons (eOp g_7 (eOp powD (eC (.int 10)) (eC (.int 12))) (eVar 2)) aNil))))) (eOp d_6 (eOp n_4 (eVar 2) (eC (.int 32))) (eC (.int 4)))))
  (sSeq (sSet 5 [2] (eFn 2 c_8 (aCons (eVar 2) (aCons (eC (.int 5)) aNil))))
  (sSeq (sSet 6 [5] (eOp ixD (eLst (aCons (eC (.int 2)) (aCons (eC (.int 3)) (aCons (eOp g_7 (eC (.int 2)) (eOp d_6 (eOp n_4 (eVar 5) (eC (.int 8))) (eC (.int 9)))) (aCons (eC (.int 10)) (aCons (eC (.int 1000)) (aCons (eC (.int 1000000000)) (aCons (eOp g_7 (eC (.int 2)) (eOp d_6 (eOp n_4 (eVar 5) (eC (.int 8))) (eC (.int 999999999)))) (aCons (eC (.int 7)) aNil))))))))) (eOp d_6 (eVar 5) (eC (.int 8)))))
  (sRet [3,4,6] (eTup (aCons (eVar 3) (aCons (eVar 4) (aCons (eVar 6) aNil))))))))))
def p_7:List D→R W:=bodyD 7 al_0
def as_4:FS:=
  (sSeq (sSet 3 [0,1] (eCall maxD (aCons (eC (.int 0)) (aCons (eOp subD (eCall lenD (aCons (eVar 0) aNil)) (eVar 1)) aNil))))
  (sRet [0,1,2,3] (eCall minD (aCons (eVar 2) (aCons (eCall maxD (aCons (eVar 3) (aCons (eOp d_6 (eFn 2 i_3 (aCons (eVar 0) (aCons (eOp subD (eVar 1) (eC (.int 1))) aNil))) (eOp g_7 (eVar 2) (eC (.int 1)))) aNil))) aNil)))))
def o_6:List D→R W:=bodyD 4 as_4
def aj_3:FS:=
  (sSeq (sSet 2 [] (eC (.int 0)))
  (sSeq (sIf [0,1] (eTest (eOp ltD (eVar 1) (eCall lenD (aCons (eVar 0) aNil))))
   (sSet 2 [0,1] (eOp ixD (eVar 0) (eVar 1)))
   sNil)
  (sSeq (sIf [0] (eTest (eOp eqD (eOp d_6 (eFn 2 i_3 (aCons (eVar 0) (aCons (eC (.int 0)) aNil))) (eC (.int 2))) (eC (.int 0))))
   (sRetV 2)
   sNil)
  (sRet [1,2] (eFn 2 c_8 (aCons (eFn 2 c_8 (aCons (eOp d_6 (eVar 2) (eC (.int 2147483647))) (aCons (eOp g_7 (eVar 1) (eC (.int 7))) aNil))) (aCons (eVar 1) aNil)))))))
def l_8:List D→R W:=bodyD 3 aj_3
def w_4:FS:=
  (sSeq (sSet 1 [1,2] (eOp g_7 (eVar 1) (eOp ixD (eC (.str "abcdefghijklmnopqrstuvwxyz0123456789-_ ")) (eOp d_6 (eVar 2) (eC (.int 39))))))
  (sSet 2 [2] (eOp n_4 (eVar 2) (eC (.int 39)))))
def as_5:FS:=
  (sSeq (sSet 1 [] (eC (.str "")))
  (sSeq (sSet 2 [0] (eOp n_4 (eVar 0) (eC (.int 12))))
  (sSeq (sFor [0] (iArgs rng1 (aCons (eOp d_6 (eVar 0) (eC (.int 12))) aNil)) (gV 3) w_4)
  (sRetV 1))))
def n_0:List D→R W:=bodyD 4 as_5
def v_2:FS:=
  (sSeq (sSet 1 [0] (eOp n_4 (eVar 0) (eC (.int 4))))
  (sSeq (sIf [0] (eTest (eOp eqD (eOp d_6 (eVar 0) (eC (.int 4))) (eC (.int 0))))
   (sRet [1] (eOp d_6 (eVar 1) (eOp powD (eC (.int 10)) (eC (.int 18)))))
   sNil)
  (sSeq (sIf [0] (eTest (eOp eqD (eOp d_6 (eVar 0) (eC (.int 4))) (eC (.int 1))))
   (sRet [1] (eFn 1 n_0 (aCons (eVar 1) aNil)))
   sNil)
  (sRet [0,1] (eOp d_6 (eVar 1) (eOp ixD (eLst (aCons (eC (.int 50)) (aCons (eC (.int 12)) aNil))) (eOp subD (eOp d_6 (eVar 0) (eC (.int 4))) (eC (.int 2)))))))))
def j_3:List D→R W:=bodyD 2 v_2
def as_6:FS:=
  (sSeq (sSet 5 [0,1,2] (eFn 2 l_8 (aCons (eVar 0) (aCons (eOp g_7 (eVar 1) (eOp d_6 (eVar 2) (eCall maxD (aCons (eC (.int 1)) (aCons (eOp subD (eCall lenD (aCons (eVar 0) aNil)) (eVar 1)) aNil))))) aNil))))
  (sSeq (sIf [0] (eTest (eOp eqD (eOp d_6 (eFn 2 i_3 (aCons (eVar 0) (aCons (eC (.int 0)) aNil))) (eC (.int 2))) (eC (.int 1))))
   (sSet 5 [2,5] (eFn 2 c_8 (aCons (eOp d_6 (eVar 5) (eC (.int 2147483647))) (aCons (eVar 2) aNil))))
   sNil)
  (sSeq (sSet 6 [5] (eOp d_6 (eVar 5) (eC (.int 8))))
  (sSeq (sSet 7 [5] (eOp n_4 (eVar 5) (eC (.int 8))))
  (sSeq (sSet 8 [4,7] (eOp d_6 (eVar 7) (eOp ixD (eVar 4) (eC (.int 2)))))
  (sSeq (sSet 9 [4,7] (eFn 1 j_3 (aCons (eOp n_4 (eVar 7) (eOp ixD (eVar 4) (eC (.int 2)))) aNil)))
  (sSeq (sIf [3,6] (tAndF (eTest (eOp gtD (eVar 6) (eC (.int 4)))) (eTest (eOp ag_5 (eVar 3) u_7)))
   (sSet 9 [3,4,7] (eOp ixD (eKL (eVar 3)) (eOp d_6 (eOp n_4 (eVar 7) (eOp ixD (eVar 4) (eC (.int 2)))) (eCall u_8 (aCons (eVar 3) aNil)))))
   sNil)
  (sRet [6,8,9] (eTup (aCons (eOp ixD (eLst (aCons (eC (.int 0)) (aCons (eC (.int 0)) (aCons (eC (.int 0)) (aCons (eC (.int 0)) (aCons (eC (.int 0)) (aCons (eC (.int 0)) (aCons (eC (.int 1)) (aCons (eC (.int 1)) aNil))))))))) (eVar 6)) (aCons (eVar 9) (aCons (eVar 8) aNil))))))))))))
def n_1:List D→R W:=bodyD 10 as_6
def x_4:FS:=
  (sRet [0,1] (eOp ixD (eLst (aCons (eNeg (eC (.int 1))) (aCons (eVar 1) (aCons (eOp subD (eOp subD (eC (.int 0)) (eC (.int 1))) (eOp d_6 (eVar 0) (eOp powD (eC (.int 10)) (eC (.int 30))))) (aCons (eOp g_7 (eVar 1) (eOp d_6 (eVar 0) (eOp powD (eC (.int 10)) (eC (.int 30))))) aNil))))) (eOp d_6 (eVar 0) (eC (.int 4)))))
def e_2:List D→R W:=bodyD 2 x_4
def n_9:FS:=
  (sSeq (sSet 1 [0] (eOp n_4 (eVar 0) (eC (.int 5))))
  (sSeq (sIf [0] (eTest (eOp eqD (eOp d_6 (eVar 0) (eC (.int 5))) (eC (.int 0))))
   (sRet [1] (eOp ixD (eLst (aCons (eNeg (eC (.int 1))) (aCons (eOp subD (eOp subD (eC (.int 0)) (eC (.int 1))) (eOp d_6 (eVar 1) (eOp powD (eC (.int 10)) (eC (.int 20))))) aNil))) (eOp d_6 (eVar 1) (eC (.int 2)))))
   sNil)
  (sSeq (sIf [0] (eTest (eOp eqD (eOp d_6 (eVar 0) (eC (.int 5))) (eC (.int 1))))
   (sRet [1] (eOp g_7 (eOp powD (eC (.int 10)) (eC (.int 18))) (eOp ixD (eLst (aCons (eC (.int 0)) (aCons (eOp d_6 (eVar 1) (eOp powD (eC (.int 10)) (eC (.int 21)))) aNil))) (eOp d_6 (eVar 1) (eC (.int 2))))))
   sNil)
  (sSeq (sIf [0] (eTest (eOp eqD (eOp d_6 (eVar 0) (eC (.int 5))) (eC (.int 2))))
   (sRet [1] (eOp g_7 (eSlice (eC (.str "abcdefghijk0")) oNone (oSome (eC (.int 11)))) (eFn 1 n_0 (aCons (eOp g_7 (eOp g_7 (eC (.int 1)) (eOp d_6 (eVar 1) (eC (.int 4)))) (eOp s_7 (eOp n_4 (eVar 1) (eC (.int 4))) (eC (.int 12)))) aNil))))
   sNil)
  (sSeq (sSet 2 [1] (eFn 1 n_0 (aCons (eOp g_7 (eOp d_6 (eVar 1) (eC (.int 11))) (eOp s_7 (eOp n_4 (eVar 1) (eC (.int 11))) (eC (.int 12)))) aNil)))
  (sSeq (sSet 3 [1,2] (eOp d_6 (eVar 1) (eOp g_7 (eCall lenD (aCons (eVar 2) aNil)) (eC (.int 1)))))
  (sRet [1,2,3] (eOp g_7 (eOp g_7 (eSlice (eVar 2) oNone (oSome (eVar 3))) (eOp ixD (eC (.str "AZ.#!~\n\t/:\x40[{")) (eOp d_6 (eOp n_4 (eVar 1) (eC (.int 12))) (eC (.int 13))))) (eSlice (eVar 2) (oSome (eVar 3)) oNone)))))))))
def f_5:List D→R W:=bodyD 4 n_9
def bn_2:FS:=
  (sSeq (sSet 1 [0] (eIsC [("NoKey",false),("NoSuch",false),("NoValue",false),("Stuck",true)] (eVar 0)))
  (sRet [0,1] (eAnd (eIsC [("NoKey",true),("NoSuch",true),("NoValue",true),("Stuck",true)] (eVar 0)) (eAnd (eIsC [("NoKey",true),("NoSuch",true),("NoValue",true),("Stuck",true)] (eVar 0)) (eNot (eVar 1))))))
def p_8:List D→R W:=bodyD 2 bn_2
def f_9:FE:=
  (eOp (inD false) (eVar 1) (eC (.str "abcdefghijklmnopqrstuvwxyz0123456789-_ ")))
def p_1:FS:=
  (sRet [0] (eAnd (eOp leD (eCall lenD (aCons (eVar 0) aNil)) (eC (.int 11))) (eCall allD (aCons (g_3 1 (iOf (eVar 0)) (gC 1) (fun _=> .ok true) f_9) aNil))))
def g_4:List D→R W:=bodyD 1 p_1
def v_3:FS:=
  (sSeq (sIf [0] (eTruth (eIs "bool" (eVar 0)))
   (sRet [] (eC (.bl false)))
   sNil)
  (sSeq (sIf [0] (eTruth (eIs "int" (eVar 0)))
   (sRet [0] (t_7 leD leD (eC (.int 0)) (eVar 0) (eC (.int 999999999999999999))))
   sNil)
  (sRet [0] (eAnd (eIs "str" (eVar 0)) (eFn 1 g_4 (aCons (eVar 0) aNil))))))
def m_4:List D→R W:=bodyD 1 v_3
def aj_4:FS:=
  (sSet 1 [1,2] (eOp g_7 (eOp g_7 (eOp s_7 (eC (.int 40)) (eVar 1)) (eMeth "str" bi_9 (eC (.str "abcdefghijklmnopqrstuvwxyz0123456789-_ ")) (aCons (eVar 2) aNil))) (eC (.int 1))))
def bz_7:FS:=
  (sSeq (sSet 1 [] (eC (.int 0)))
  (sSeq (sFor [0] (iOf (eVar 0)) (gV 2) aj_4)
  (sRetV 1)))
def ag_7:List D→R W:=bodyD 3 bz_7
def an_9:FS:=
  (sSeq (sIf [0] (tNotF (eTruth (eFn 1 m_4 (aCons (eVar 0) aNil))))
   (t_9 "NoKey" "at" [] (eC (.int 0)))
   sNil)
  (sSeq (sIf [0] (eTruth (eIs "str" (eVar 0)))
   (sRet [0] (eOp g_7 (eOp s_7 (eC (.int 2)) (eFn 1 ag_7 (aCons (eVar 0) aNil))) (eC (.int 1))))
   sNil)
  (sRet [0] (eOp s_7 (eC (.int 2)) (eVar 0)))))
def i_8:List D→R W:=bodyD 1 an_9
def p_2:FS:=
  (sSeq (sExpr [1] (eFn 1 i_8 (aCons (eVar 1) aNil)))
  (sSeq (sIf [0,1] (eTest (eOp (inK true) (eVar 1) (j_2 ["Living"] "by_key" (eVar 0))))
   (w_1 "NoSuch")
   sNil)
  (bm_3 0 ["Living"] "by_key" (eVar 1))))
def b_8:Tn→List D→RR:=m_3 2 p_2
def w_5:FS:=
  (sRet [0,1] (eAnd (eNot (eIs "bool" (eVar 0))) (t_7 leD ltD (eC (.int 0)) (eVar 0) (eVar 1))))
def h_1:List D→R W:=bodyD 2 w_5
def e_3:FS:=
  (sIf [2,6] (eTest (eOp (inK true) (eVar 6) (eVar 2)))
   (sSeq (ag_1 2 [4,5] (eVar 6) (eTup (aCons (eVar 5) (aCons (eVar 4) aNil))))
  (sApp 3 (eVar 6)))
   sNil)
def r_0:FT:=
  (eTest (eOp gtD (eCall lenD (aCons (eVar 3) aNil)) (eC (.int 0))))
def r_1:FS:=
  (sSeq (bm_8 4 3 (eC (.int 0)))
  (sFor [1,4] (iOf (bj_2 (eVar 1) (eVar 4) (eLst aNil))) (gV2 5 6) e_3))
def ae_2:FS:=
  (sSeq (sSet 2 [0] (co_5 (eVar 0) (eC .non)))
  (sSeq (sSet 3 [0] (eLst (aCons (eVar 0) aNil)))
  (sSeq (r_6 [3] r_0 r_1 3000)
  (sRetV 2))))
def i_4:List D→R W:=bodyD 7 ae_2
def al_1:FS:=
  (sRet [0,1] (eIf (eTest (eOp eqD (eVar 1) (eC (.int 0)))) (eC (.int 0)) (eOp d_6 (eVar 0) (eVar 1))))
def n_3:List D→R W:=bodyD 2 al_1
def j_4:FS:=
  (sSeq (l_9 7 (j_6 [0] (eIf (eTest (eOp ltD (eVar 5) (j_2 ["Living"] "part" (eVar 0)))) (eVar 2) (eVar 3))))
  (sApp 4 (eIf (eTest (eOp (inK false) (eVar 5) (eVar 1))) (eFn 2 n_3 (aCons (eOp g_7 (eVar 6) (eVar 7)) (aCons (j_2 ["Living"] "modulus" (eVar 0)) aNil))) (eVar 6))))
def z_2:FS:=
  (sSeq (sSet 4 [] (eLst aNil))
  (sSeq (bm_7 (j_6 [0] (j_2 ["Living"] "listed" (eVar 0))) (gV2 5 6) j_4)
  (bm_4 0 ["Living"] "listed" [4] (eVar 4))))
def d_2:Tn→List D→RR:=m_3 8 z_2
def ac_7:FS:=
  (sSeq (sSet 4 [1,3] (eFn 2 i_4 (aCons (eOp ixD (eVar 1) (eC (.int 0))) (aCons (eVar 3) aNil))))
  (sSeq (sSet 5 [1,3] (eFn 2 i_4 (aCons (eOp ixD (eVar 1) (eC (.int 1))) (aCons (eVar 3) aNil))))
  (sSeq (sIf [1,4] (eTest (eOp (inK false) (eOp ixD (eVar 1) (eC (.int 1))) (eVar 4)))
   (w_1 "Stuck")
   sNil)
  (sSeq (sIf [4,5] (eTest (eOp leD (eCall u_8 (aCons (eVar 4) aNil)) (eCall u_8 (aCons (eVar 5) aNil))))
   (sSeq (k_1 (d_5 [2,4] (m_0 0 3 "shift" "Living" d_2 (a_8 (eVar 4) (a_8 (eVar 2) (a_8 (eNeg (eVar 2)) h_0))))))
  (l_6 (h_6 [4] (eCall u_8 (aCons (eVar 4) aNil)))))
   sNil)
  (sSeq (k_1 (d_5 [2,5] (m_0 0 3 "shift" "Living" d_2 (a_8 (eVar 5) (a_8 (eNeg (eVar 2)) (a_8 (eVar 2) h_0))))))
  (l_6 (h_6 [5] (eCall u_8 (aCons (eVar 5) aNil)))))))))
def g_5:Tn→List D→RR:=m_3 6 ac_7
def bz_8:FS:=
  (sSeq (sIf [2] (eTest (eOp eqD (eVar 2) (eC (.int 0))))
   (sRet [] (eC (.int 0)))
   sNil)
  (sSeq (sSet 3 [1] (eOp g_7 (eC (.int 1)) (eOp d_6 (eOp g_7 (eOp s_7 (eC (.int 1103515245)) (eVar 1)) (eC (.int 12345))) (eOp subD (eC (.int 2305843009213693951)) (eC (.int 1))))))
  (sSeq (sSet 4 [1] (eOp d_6 (eOp g_7 (eOp s_7 (eOp s_7 (eC (.int 69069)) (eVar 1)) (eVar 1)) (eOp s_7 (eC (.int 7)) (eVar 1))) (eC (.int 2305843009213693951))))
  (sSeq (sSet 5 [0,3,4] (eOp d_6 (eOp g_7 (eOp s_7 (eVar 3) (eVar 0)) (eVar 4)) (eC (.int 2305843009213693951))))
  (sRet [2,5] (eOp d_6 (eOp g_7 (eVar 5) (eOp n_4 (eVar 5) (eC (.int 2147483648)))) (eVar 2)))))))
def ag_8:List D→R W:=bodyD 6 bz_8
def p_3:FE:=
  (eOp g_7 (eOp s_7 (eVar 5) (eVar 3)) (eFn 3 ag_8 (aCons (eVar 4) (aCons (eOp g_7 (eOp s_7 (eC (.int 4)) (eVar 1)) (eVar 5)) (aCons (eVar 3) aNil)))))
def z_3:FS:=
  (sSeq (sSet 4 [0] (eFn 1 i_8 (aCons (eVar 0) aNil)))
  (sRet [1,2,3,4] (eCall cl_2 (aCons (g_3 1 (iArgs rng1 (aCons (eVar 2) aNil)) (gC 5) (fun _=> .ok true) p_3) aNil))))
def l_7:List D→R W:=bodyD 5 z_3
def q_6:FS:=
  (sRet [0,1] (eFn 4 l_7 (aCons (eVar 1) (aCons (j_2 ["Living"] "by_salt" (eVar 0)) (aCons (eC (.int 2)) (aCons (j_2 ["Living"] "part" (eVar 0)) aNil))))))
def b_1:List D→R W:=bodyD 2 q_6
def s_0:FE:=
  (eOp ixD (eVar 0) (eVar 4))
def s_1:FT:=
  (eTruth (eFn 2 h_1 (aCons (eVar 4) (aCons (eCall lenD (aCons (eVar 0) aNil)) aNil))))
def bn_3:FS:=
  (sSeq (sSet 3 [0,1] (g_3 1 (iOf (eVar 1)) (gC 4) s_1 s_0))
  (sRet [2,3] (eFn 2 n_3 (aCons (eCall sumD (aCons (eVar 3) aNil)) (aCons (eVar 2) aNil)))))
def z_4:List D→R W:=bodyD 4 bn_3
def s_2:FS:=
  (sRet [0,1] (eFn 3 z_4 (aCons (j_2 ["Living"] "listed" (eVar 0)) (aCons (c_7 "places" 1 [("Living",b_1)] (eVar 0) (aCons (eVar 1) aNil)) (aCons (j_2 ["Living"] "modulus" (eVar 0)) aNil)))))
def c_6:List D→R W:=bodyD 2 s_2
def al_2:FS:=
  (sSeq (sSdb 1 (eOp ixD (eVar 3) (eC (.int 0))) (eTup (aCons (eVar 2) (aCons (eOp ixD (eVar 3) (eC (.int 1))) aNil))))
  (sSdb 1 (eOp ixD (eVar 3) (eC (.int 1))) (eTup (aCons (eVar 2) (aCons (eOp ixD (eVar 3) (eC (.int 0))) aNil)))))
def aj_5:FS:=
  (sSeq (sSet 1 [] u_7)
  (sSeq (sFor [0] (iOf (eVar 0)) (gV2 2 3) al_2)
  (sRetV 1)))
def ab_1:List D→R W:=bodyD 4 aj_5
def f_7:FE:=
  (eTup (aCons (eVar 2) (aCons (c_7 "places" 1 [("Living",b_1)] (eVar 0) (aCons (eVar 2) aNil)) aNil)))
def f_8:FT:=
  (eTest (eOp neD (eVar 2) (eVar 1)))
def o_3:FS:=
  (sRet [0,1] (eFn 1 ab_1 (aCons (g_3 1 (y_7 (j_2 ["Living"] "by_key" (eVar 0))) (gC 2) f_8 f_7) aNil)))
def b_2:List D→R W:=bodyD 2 o_3
def r_2:FS:=
  (sSeq (l_9 3 (j_6 [0] (c_7 "places" 1 [("Living",b_1)] (eVar 0) (aCons (eVar 1) aNil))))
  (sSeq (sIf [0,2] (tNotF (eTruth (eFn 2 h_1 (aCons (eVar 2) (aCons (j_2 ["Living"] "modulus" (eVar 0)) aNil)))))
   (t_9 "NoValue" "at" [] (eC (.int 0)))
   sNil)
  (sSeq (l_9 4 (j_6 [0] (eOp subD (eVar 2) (c_7 "value" 1 [("Living",c_6)] (eVar 0) (aCons (eVar 1) aNil)))))
  (sSeq (sSet 5 [] (eC (.int 0)))
  (sSeq (sIf [4] (eTest (eOp neD (eVar 4) (eC (.int 0))))
   (l_9 5 (d_5 [1,3,4] (m_0 0 3 "mend" "Living" g_5 (a_8 (eVar 3) (a_8 (eVar 4) (ak_7 [0] (c_7 "ways_without" 1 [("Living",b_2)] (eVar 0) (aCons (eVar 1) aNil)) h_0))))))
   sNil)
  (sSeq (ay_9 0 ["Living"] "by_key" (eVar 1) (eVar 2))
  (l_6 (h_6 [5] (eVar 5)))))))))
def c_3:Tn→List D→RR:=m_3 6 r_2
def ab_9:FT:=
  (eTest (eOp (isND true) (eVar 3) (eC .non)))
def ac_0:FS:=
  (sSeq (sApp 2 (eOp ixD (eVar 3) (eC (.int 0))))
  (sSet 3 [1,3] (eOp getK (eVar 1) (eOp ixD (eVar 3) (eC (.int 1))))))
def ag_9:FS:=
  (sSeq (sSet 2 [] (eLst aNil))
  (sSeq (sSet 3 [0,1] (eOp getK (eVar 1) (eVar 0)))
  (sSeq (r_6 [3] ab_9 ac_0 3000)
  (sRetV 2))))
def o_0:List D→R W:=bodyD 4 ag_9
def ac_8:FS:=
  (sSeq (sSet 2 [0,1] (c_7 "places" 1 [("Living",b_1)] (eVar 0) (aCons (eVar 1) aNil)))
  (sSeq (sSet 3 [0,1,2] (eFn 2 i_4 (aCons (eOp ixD (eVar 2) (eC (.int 1))) (aCons (c_7 "ways_without" 1 [("Living",b_2)] (eVar 0) (aCons (eVar 1) aNil)) aNil))))
  (sSeq (sIf [2,3] (eTest (eOp (inK true) (eOp ixD (eVar 2) (eC (.int 0))) (eVar 3)))
   (sRet [] (eC .non))
   sNil)
  (sRet [2,3] (eFn 2 o_0 (aCons (eOp ixD (eVar 2) (eC (.int 0))) (aCons (eVar 3) aNil)))))))
def g_6:List D→R W:=bodyD 4 ac_8
def k_7:FS:=
  (sIf [1] (eTest (eOp eqD (eVar 1) (eC (.int 0))))
   (k_1 (j_6 [0] (c_7 "value" 1 [("Living",c_6)] (eVar 0) (aCons (eVar 2) aNil))))
   (sIf [1] (eTest (eOp eqD (eVar 1) (eC (.int 1))))
   (k_1 (j_6 [0] (c_7 "places" 1 [("Living",b_1)] (eVar 0) (aCons (eVar 2) aNil))))
   (sIf [1] (eTest (eOp eqD (eVar 1) (eC (.int 2))))
   (k_1 (j_6 [0] (c_7 "ring" 1 [("Living",g_6)] (eVar 0) (aCons (eVar 2) aNil))))
   (sIf [1] (eTest (eOp eqD (eVar 1) (eC (.int 3))))
   (k_1 (d_5 [2] (m_0 0 1 "drop" "Living" b_8 (a_8 (eVar 2) h_0))))
   (k_1 (d_5 [2,3] (m_0 0 2 "put" "Living" c_3 (a_8 (eVar 2) (a_8 (eVar 3) h_0)))))))))
def ac_9:FS:=
  (sSet 4 [5] (eLst (aCons (eC (.str "key")) (aCons (eAttr ["NoKey", "NoValue"] "at" (eVar 5)) (aCons (eAnd (eFn 1 p_8 (aCons (eVar 5) aNil)) (eNot (eIsC [("NoKey",false),("NoSuch",true),("NoValue",true),("Stuck",false)] (eVar 5)))) aNil)))))
def ad_0:FS:=
  (sSet 4 [5] (eLst (aCons (eC (.str "value")) (aCons (eAttr ["NoKey", "NoValue"] "at" (eVar 5)) (aCons (eAnd (eFn 1 p_8 (aCons (eVar 5) aNil)) (eNot (eIsC [("NoKey",true),("NoSuch",true),("NoValue",false),("Stuck",false)] (eVar 5)))) aNil)))))
def ad_1:FS:=
  (sSet 4 [5] (eLst (aCons (eC (.str "such")) (aCons (eC (.int 0)) (aCons (eAnd (eFn 1 p_8 (aCons (eVar 5) aNil)) (eNot (eIsC [("NoKey",true),("NoSuch",false),("NoValue",true),("Stuck",false)] (eVar 5)))) aNil)))))
def al_3:FS:=
  (sSeq (sSet 4 [] (eC .non))
  (sSeq (ac_6 k_7 [⟨some 5, [("NoKey",true),("NoSuch",false),("NoValue",false),("Stuck",false)],ac_9⟩,⟨some 5, [("NoKey",false),("NoSuch",false),("NoValue",true),("Stuck",false)],ad_0⟩,⟨some 5, [("NoKey",false),("NoSuch",true),("NoValue",false),("Stuck",false)],ad_1⟩])
  (l_6 (h_6 [4] (eVar 4)))))
def d_3:Tn→List D→RR:=m_3 6 al_3
def m_6:FE:=
  (eTup (aCons (eVar 1) (aCons (eOp getK (j_2 ["Living"] "by_key" (eVar 0)) (eVar 1)) aNil)))
def ad_2:FS:=
  (sRet [0] (g_3 1 (iOf (as_0 i_8 (j_2 ["Living"] "by_key" (eVar 0)))) (gC 1) (fun _=> .ok true) m_6))
def c_0:List D→R W:=bodyD 1 ad_2
def z_5:FS:=
  (sRet [0] (eCall br_0 (aCons (j_2 ["Living"] "listed" (eVar 0)) aNil)))
def c_4:List D→R W:=bodyD 1 z_5
def ad_3:FS:=
  (sSeq (l_9 4 (j_6 [0] (eLst (aCons (c_7 "table" 0 [("Living",c_4)] (eVar 0) aNil) (aCons (c_7 "kept" 0 [("Living",c_0)] (eVar 0) aNil) aNil)))))
  (sSeq (sSet 5 [2] (eFn 2 c_8 (aCons (eOp d_6 (eVar 2) (eC (.int 2147483647))) (aCons (eC (.int 3)) aNil))))
  (sSeq (sSet 6 [3,5] (eOp ixD (eLst (aCons (eOp d_6 (eVar 5) (eOp ixD (eVar 3) (eC (.int 2)))) (aCons (eFn 2 e_2 (aCons (eVar 5) (aCons (eOp ixD (eVar 3) (eC (.int 2))) aNil))) aNil))) (eOp d_6 (eOp n_4 (eVar 5) (eC (.int 4))) (eC (.int 2)))))
  (sSeq (sIfM (mOp neD (d_5 [5,6] (k_2 0 3 d_3 (a_8 (eOp d_6 (eVar 5) (eC (.int 5))) (a_8 (eFn 1 f_5 (aCons (eFn 2 c_8 (aCons (eVar 5) (aCons (eC (.int 4)) aNil))) aNil)) (a_8 (eVar 6) h_0))))) (h_6 [] (eLst (aCons (eC (.str "key")) (aCons (eC (.int 0)) (aCons (eC (.bl true)) aNil))))))
   (l_6 (h_6 [] (eC (.bl false))))
   sNil)
  (sSeq (sSet 7 [5] (eFn 1 j_3 (aCons (eFn 2 c_8 (aCons (eVar 5) (aCons (eC (.int 5)) aNil))) aNil)))
  (sSeq (sIf [1,5] (tAndF (eTest (eOp ag_5 (eVar 1) u_7)) (eTest (eOp eqD (eOp d_6 (eOp n_4 (eVar 5) (eC (.int 8))) (eC (.int 2))) (eC (.int 0)))))
   (sSet 7 [1,5] (eOp ixD (eKL (eVar 1)) (eOp d_6 (eOp n_4 (eVar 5) (eC (.int 16))) (eCall u_8 (aCons (eVar 1) aNil)))))
   sNil)
  (sSeq (sIfM (mOp neD (d_5 [3,5,7] (k_2 0 3 d_3 (a_8 (eC (.int 4)) (a_8 (eVar 7) (a_8 (eFn 2 e_2 (aCons (eFn 2 c_8 (aCons (eVar 5) (aCons (eC (.int 6)) aNil))) (aCons (eOp ixD (eVar 3) (eC (.int 2))) aNil))) h_0))))) (h_6 [] (eLst (aCons (eC (.str "value")) (aCons (eC (.int 0)) (aCons (eC (.bl true)) aNil))))))
   (l_6 (h_6 [] (eC (.bl false))))
   sNil)
  (sSeq (sIfM (mAnd (eTest (eOp (inK true) (eVar 7) (eVar 1))) (mOp neD (d_5 [7] (k_2 0 3 d_3 (a_8 (eC (.int 3)) (a_8 (eVar 7) (a_8 (eC (.int 0)) h_0))))) (h_6 [] (eLst (aCons (eC (.str "such")) (aCons (eC (.int 0)) (aCons (eC (.bl true)) aNil)))))))
   (l_6 (h_6 [] (eC (.bl false))))
   sNil)
  (l_6 (j_6 [0] (eOp eqD (eLst (aCons (c_7 "table" 0 [("Living",c_4)] (eVar 0) aNil) (aCons (c_7 "kept" 0 [("Living",c_0)] (eVar 0) aNil) aNil))) (eVar 4))))))))))))
def e_6:Tn→List D→RR:=m_3 8 ad_3
def p_9:FS:=
  (l_9 3 (d_5 [1,2] (m_0 0 2 "put" "Living" c_3 (a_8 (eVar 1) (a_8 (eVar 2) h_0)))))
def z_6:FS:=
  (sSet 3 [] (eC (.str "stuck")))
def az_2:FS:=
  (sSeq (ac_6 p_9 [⟨none, [("NoKey",false),("NoSuch",false),("NoValue",false),("Stuck",true)],z_6⟩])
  (l_6 (h_6 [3] (eVar 3))))
def k_8:Tn→List D→RR:=m_3 4 az_2
def t_3:FS:=
  (sSeq (ak_5 0 ["Living"] "part" [1] (eVar 1))
  (sSeq (ak_5 0 ["Living"] "by_salt" [2] (eVar 2))
  (sSeq (ak_5 0 ["Living"] "modulus" [3] (eVar 3))
  (sSeq (ak_5 0 ["Living"] "listed" [1] (eRep (aCons (eC (.int 0)) aNil) (eOp s_7 (eC (.int 2)) (eVar 1))))
  (bm_5 0 ["Living"] "by_key" u_7)))))
def v_4:List D→R (List Str×List Tn):=z_1 4 "Living" t_3
def ao_0:FS:=
  (sSeq (sSet 5 [0,4] (eFn 2 l_8 (aCons (eVar 0) (aCons (eOp g_7 (eC (.int 3)) (eVar 4)) aNil))))
  (sSeq (sIfM (mNot (bl_8 (d_5 [1,4,5] (bn_1 3 (k_2 2 3 e_6 (a_8 (eVar 3) (a_8 (eOp g_7 (eVar 5) (eVar 4)) (a_8 (eVar 1) h_0))))))))
   (sRet [] (eC (.bl false)))
   sNil)
  (sSeq (bm_6 (by_9 [6,7,8]) (j_6 [3] (eFn 5 n_1 (aCons (eVar 0) (aCons (eC (.int 3)) (aCons (eVar 4) (aCons (eVar 3) (aCons (eVar 1) aNil))))))))
  (sIf [3,6,7] (tAndF (eTest (eOp eqD (eVar 6) (eC (.int 1)))) (eTest (eOp (inK false) (eVar 7) (eVar 3))))
   (sSeq (k_1 (d_5 [7] (m_0 2 1 "drop" "Living" b_8 (a_8 (eVar 7) h_0))))
  (bz_4 3 (eVar 7)))
   (sIfM (mOp neD (d_5 [7,8] (k_2 2 2 k_8 (a_8 (eVar 7) (a_8 (eVar 8) h_0)))) (h_6 [] (eC (.str "stuck"))))
   (ag_1 3 [8] (eVar 7) (eVar 8))
   sNil)))))
def bf_2:FS:=
  (sSet 1 [0] (eFn 2 p_7 (aCons (eVar 0) (aCons (eC (.int 8)) aNil))))
def bf_3:FS:=
  (sSet 2 [1] (co_3 "Living" 3 v_4 (aCons (eOp ixD (eVar 1) (eC (.int 0))) (aCons (eOp ixD (eVar 1) (eC (.int 1))) (aCons (eOp ixD (eVar 1) (eC (.int 2))) aNil)))))
def bz_9:FS:=
  (sSet 3 [] u_7)
def bf_4:FS:=
  (sFor [0] (iArgs rng1 (aCons (eCall maxD (aCons (eC (.int 1)) (aCons (eFn 3 o_6 (aCons (eVar 0) (aCons (eC (.int 3)) (aCons (eC (.int 30)) aNil)))) aNil))) aNil)) (gV 4) ao_0)
def bf_5:FS:=
  (sRet [2,3] (eOp eqD (eCall lenD (aCons (c_7 "kept" 0 [("Living",c_0)] (eVar 2) aNil) aNil)) (eCall u_8 (aCons (eVar 3) aNil))))
def dc_7:FS:=
  (sSeq bf_2
  (sSeq bf_3
  (sSeq bz_9
  (sSeq bf_4
  bf_5))))
def dc_8:List D→R W:=bodyD 9 dc_7
end My
namespace L3
open PySem L2
def okD:Nat→D→Bool
 |_, .non=>true
 |_, .bl _=>true
 |_, .int _=>true
 |_, .str x=>x.cps.all (· < 0x110000)
 |n + 1, .lst ds=>ds.all (okD n)
 |n + 1, .tup ds=>ds.all (okD n)
 |_,_=>false
theorem co_9:∀(n:Nat) (d:D),okD n d=true→(o_1 d).canLay0=true∧(o_1 d).depth≤n∧(o_1 d).eqv (o_1 d)=true:=by
 intro n
 induction n with
 |zero=>
  intro d h;cases d with
  |non=>exact⟨rfl,Nat.le_refl _,rfl⟩
  |bl b=>exact⟨rfl,Nat.le_refl _,by cases b <;> rfl⟩
  |int i=>exact⟨rfl,Nat.le_refl _,by show(i ==i)=true;simp⟩
  |str x=>exact⟨h,Nat.le_refl _,by show(x ==x)=true;simp⟩
  |_=>cases h
 |succ n ih=>
  have all:∀ds:List D,ds.all (okD n)=true→PyData.canLayAll0 (t_1 ds)=true∧PyData.depthAll (t_1 ds)≤n∧PyData.eqvAll (t_1 ds) (t_1 ds)=true:=by
   intro ds
   induction ds with
   |nil=>intro _;exact⟨rfl,Nat.zero_le _,rfl⟩
   |cons d ds ih2=>
    intro h;rw [List.all_cons,Bool.and_eq_true] at h;obtain⟨a1,a2,a3⟩:=ih d h.1;obtain⟨b1,b2,b3⟩:=ih2 h.2;refine⟨?_, ?_, ?_⟩
    ·show(PyData.canLay0 (o_1 d) && PyData.canLayAll0 (t_1 ds))=true;rw [a1,b1];rfl
    ·show max (PyData.depth (o_1 d)) (PyData.depthAll (t_1 ds))≤n;exact Nat.max_le.mpr ⟨a2,b2⟩
    ·show(PyData.eqv (o_1 d) (o_1 d) && PyData.eqvAll (t_1 ds) (t_1 ds))=true;rw [a3,b3];rfl
  intro d h;cases d with
  |non=>exact⟨rfl,Nat.zero_le _,rfl⟩
  |bl b=>exact⟨rfl,Nat.zero_le _,by cases b <;> rfl⟩
  |int i=>exact⟨rfl,Nat.zero_le _,by show(i ==i)=true;simp⟩
  |str x=>exact⟨h,Nat.zero_le _,by show(x ==x)=true;simp⟩
  |lst ds=>
   obtain⟨b1,b2,b3⟩:=all ds h;exact⟨b1,Nat.succ_le_succ b2,b3⟩
  |tup ds=>
   obtain⟨b1,b2,b3⟩:=all ds h;exact⟨b1,Nat.succ_le_succ b2,b3⟩
  |_=>cases h
theorem cp_0{n:Nat}{d:D}(h:okD n d=true)(hn:n≤60):eqC d d=true∧eqvD d d=true:=by
 obtain⟨a1,a2,a3⟩:=co_9 n d h;refine⟨?_,a3⟩;unfold eqC;rw [a1,decide_eq_true (Nat.le_trans a2 hn)];rfl
theorem bn_4{d:D}(n:Nat)(h:okD n d=true)(hn:n≤60:=by decide):eqD d d= .ok (.sh (.bl true)):=by
 obtain⟨h1,h2⟩:=cp_0 h hn;unfold eqD
 split
 ·simp
 ·rw [if_pos h1,h2]
theorem az_3{α:Type}(f:α→Int):∀l:List α,ay_1 (l.map fun a=>D.int (f a))=some (l.map f)
 | []=>rfl
 |a::l=>by
  show(ay_1 (l.map fun a=>D.int (f a))).map (f a:: ·)=_;rw [az_3 f l];rfl
theorem dj_6{α:Type}(f:α→Int)(l:List α):sumD [.lst (l.map fun a=>D.int (f a))]= .ok (.sh (.int (l.map f).sum)):=by
 unfold sumD;simp only [az_3]
theorem dp_3{n i:Nat}(h:i < n):ixN n (i:Int)=some i:=by
 unfold ixN;rw [if_pos (by omega),if_pos (by omega)];simp
theorem dp_4{α:Type}{xs:List α}{i:Nat}{x:α}(h:xs[i]? =some x):atI xs (i:Int)=some x:=by
 unfold atI;rw [dp_3 (List.getElem?_eq_some_iff.mp h).1];exact h
end L3
namespace My
open PySem L2 L3
theorem dj_7{α:Type}(l:List α)(a:Nat)(h:a≤l.length):cutL l none (some (a:Int))=l.take a:=by
 unfold cutL;have e1:HT.sIx l.length 0 none=0:=rfl;have e2:HT.sIx l.length l.length (some (a:Int))=a:=by
  show(if(a:Int) < 0 then((a:Int) + (l.length:Int)).toNat else min (a:Int).toNat l.length)=a;rw [if_neg (by omega)];omega
 rw [e1,e2,List.drop_zero,Nat.sub_zero]
theorem cp_1{α:Type}(l:List α)(a:Nat)(h:a≤l.length):cutL l (some (a:Int)) none=l.drop a:=by
 unfold cutL;have e1:HT.sIx l.length l.length none=l.length:=rfl;have e2:HT.sIx l.length 0 (some (a:Int))=a:=by
  show(if(a:Int) < 0 then((a:Int) + (l.length:Int)).toNat else min (a:Int).toNat l.length)=a;rw [if_neg (by omega)];omega
 rw [e1,e2,List.take_of_length_le (by rw [List.length_drop];omega)]
def mixZ(c k:Int):Int:=((c + 1) * (48271 + 118 * k) % 2147483629 / 977 * 16807 + (c + 1) * (48271 + 118 * k) % 2147483629 * (k * k + 7) + k) % 2147483587
theorem u_1(c k:Int)(h1: -1000≤k)(h2:k≤1000):c_8 [.int c, .int k]= .ok (.sh (.int (mixZ c k))):=by
 have hk: -18446744073709551616 < k * k + 7∧k * k + 7 < 18446744073709551616:=by
  have:k * k≤1000 * 1000:=by
   rcases Int.le_total 0 k with h|h
   ·exact Int.mul_le_mul h2 h2 h (by decide)
   ·have:(-k) * (-k)≤1000 * 1000:=Int.mul_le_mul (by omega) (by omega) (by omega) (by decide)
    rwa [Int.neg_mul_neg] at this
  have:0≤k * k:=by
   rcases Int.le_total 0 k with h|h
   ·exact Int.mul_nonneg h h
   ·have:=Int.mul_nonneg (a:= -k) (b:= -k) (by omega) (by omega)
    rwa [Int.neg_mul_neg] at this
  omega
 have m1:mulC 118 k=true:=r_9 (by decide) (by decide);have m2:mulC (c + 1) (48271 + 118 * k)=true:=ai_6 (by omega) (by omega);have m3:∀z:Int,mulC z 16807=true:=fun z=>ai_6 (by decide) (by decide);have m4:mulC k k=true:=r_9 (by omega) (by omega);have m5:∀z:Int,mulC z (k * k + 7)=true:=fun z=>ai_6 hk.1 hk.2
 simp_arith [c_8,az_1,evs,l_3 m1,l_3 m2,l_3 (m3 _),l_3 m4,l_3 (m5 _),l_4,m_9 (show(0:Int) < 977 by decide) (by decide),c_2 (show(0:Int) < 2147483629 by decide),c_2 (show(0:Int) < 2147483587 by decide)]
 rfl
theorem dc_9(ns:List Int)(k:Int)(h:0≤k)(hk:k < (ns.length:Int)):atI (ns.map D.int) k=some (.int (ns.getD k.toNat 0)):=by
 apply bd_3 h;rw [List.getElem?_map];have:k.toNat < ns.length:=by omega
 simp [List.getD,this]
def al_4(ns:List Int)(k:Int):Int:=mixZ (if k < (ns.length:Int) then ns.getD k.toNat 0 % 2147483647 else 0) (k + 101)
theorem ao_1(ns:List Int)(k:Int)(h:0≤k)(h2:k≤500):i_3 [.lst (ns.map .int), .int k]= .ok (.sh (.int (al_4 ns k))):=by
 simp_arith [i_3,as_3,evs,t_2,ak_6,List.length_map]
 unfold al_4
 by_cases hk:k < (ns.length:Int)
 ·simp_arith [hk,decide_true,if_true,n_6 (dc_9 ns k h hk),evs,c_2 (show(0:Int) < 2147483647 by decide),l_4,u_1 _ (k + 101) (by omega) (by omega)]
 ·simp_arith [hk,decide_false,if_false,evs,l_4,u_1 _ (k + 101) (by omega) (by omega)]
theorem bf_6(c k:Int):0≤mixZ c k:=Int.emod_nonneg _ (by decide)
theorem bf_7(c k:Int):mixZ c k < 2147483587:=Int.emod_lt_of_pos _ (by decide)
theorem cp_2(ns:List Int)(k:Int):0≤al_4 ns k:=bf_6 _ _
theorem cp_3(ns:List Int)(k:Int):al_4 ns k < 2147483587:=bf_7 _ _
theorem cp_4(ns:List Int)(k:Int)(h:0≤k)(h2:k≤400):∃z,l_8 [.lst (ns.map .int), .int k]= .ok (.sh (.int z)):=by
 have fin:∀c:Int,∃z,sSeq (sIf [0] (eTest (eOp eqD (eOp d_6 (eFn 2 i_3 (aCons (eVar 0) (aCons (eC (.int 0)) aNil))) (eC (.int 2))) (eC (.int 0)))) (sRetV 2) sNil) (sRet [1,2] (eFn 2 c_8 (aCons (eFn 2 c_8 (aCons (eOp d_6 (eVar 2) (eC (.int 2147483647))) (aCons (eOp g_7 (eVar 1) (eC (.int 7))) aNil))) (aCons (eVar 1) aNil)))) [.sh (.lst (ns.map .int)), .sh (.int k), .sh (.int c)]= .rt (.sh (.int z)):=fun c=>by
  have ec:=ao_1 ns 0 (by decide) (by decide)
  by_cases hz:al_4 ns 0 % 2=0
  ·exact⟨c,by simp_arith [evs,ec,c_2 (show(0:Int) < 2 by decide),e_9,hz,decide_true]⟩
  ·exact⟨mixZ (mixZ (c % 2147483647) (k + 7)) k,by simp_arith [evs,ec,c_2 (show(0:Int) < 2 by decide),e_9,hz,decide_false,c_2 (show(0:Int) < 2147483647 by decide),l_4,u_1 _ (k + 7) (by omega) (by omega),u_1 _ k (by omega) (by omega)]⟩
 by_cases hk:k < (ns.length:Int)
 ·obtain⟨z,ez⟩:=fin (ns.getD k.toNat 0);refine⟨z, ?_⟩;unfold l_8 aj_3 bodyD;rw [b_4 (Δ':= [.sh (.lst (ns.map .int)), .sh (.int k), .sh (.int 0)]) (by simp_arith [evs]),b_4 (Δ':= [.sh (.lst (ns.map .int)), .sh (.int k), .sh (.int (ns.getD k.toNat 0))]) (by simp_arith [evs,t_2,ak_6,List.length_map,hk,decide_true,n_6 (dc_9 ns k h hk)]),ez]
 ·obtain⟨z,ez⟩:=fin 0;refine⟨z, ?_⟩;unfold l_8 aj_3 bodyD;rw [b_4 (Δ':= [.sh (.lst (ns.map .int)), .sh (.int k), .sh (.int 0)]) (by simp_arith [evs]),b_4 (Δ':= [.sh (.lst (ns.map .int)), .sh (.int k), .sh (.int 0)]) (by simp_arith [evs,t_2,ak_6,List.length_map,hk,decide_false]),ez]
theorem ah_0{ds:List D}{i:Int}(h0:0≤i)(h1:i < (ds.length:Int)):∃d,d∈ds∧atI ds i=some d:=by
 have hl:i.toNat < ds.length:=by omega
 exact⟨ds[i.toNat],List.getElem_mem hl,bd_3 h0 (List.getElem?_eq_getElem hl)⟩
theorem cp_5:powD (.int 10) (.int 12)= .ok (.sh (.int 1000000000000)):=rfl
theorem cp_6(ns:List Int):∃p s m:Int,p_7 [.lst (ns.map .int), .int 8]= .ok (.sh (.tup [.int p, .int s, .int m]))∧1≤p∧p≤8∧0≤s∧s < 1003000000000∧2≤m∧m≤1000000001:=by
 have ec:=ao_1 ns 1 (by decide) (by decide);have c0:=cp_2 ns 1;have c1:=cp_3 ns 1;generalize al_4 ns 1=c at ec c0 c1;have em:=u_1 c 5 (by decide) (by decide);have o0:=bf_6 c 5;have o1:=bf_7 c 5;generalize mixZ c 5=o at em o0 o1;have i0:=Int.emod_nonneg (c / 32) (show(4:Int)≠0 by decide);have i1:=Int.emod_lt_of_pos (c / 32) (show(0:Int) < 4 by decide);have j0:=Int.emod_nonneg o (show(8:Int)≠0 by decide);have j1:=Int.emod_lt_of_pos o (show(0:Int) < 8 by decide);obtain⟨d1,m1,e1⟩:=ah_0 (ds:= [.int 0, .int 1, .int (c / 64 % 1000), .int (1000000000000 + c)]) i0 i1;obtain⟨d2,m2,e2⟩:=ah_0 (ds:= [.int 2, .int 3, .int (2 + o / 8 % 9), .int 10, .int 1000, .int 1000000000, .int (2 + o / 8 % 999999999), .int 7]) j0 j1;have q1:∃s,d1= .int s∧0≤s∧s < 1003000000000:=by
  simp only [List.mem_cons,List.not_mem_nil,or_false] at m1;rcases m1 with rfl|rfl|rfl|rfl
  ·exact⟨_,rfl,by decide,by decide⟩
  ·exact⟨_,rfl,by decide,by decide⟩
  ·exact⟨_,rfl,by omega,by omega⟩
  ·exact⟨_,rfl,by omega,by omega⟩
 have q2:∃s,d2= .int s∧2≤s∧s≤1000000001:=by
  simp only [List.mem_cons,List.not_mem_nil,or_false] at m2;rcases m2 with rfl|rfl|rfl|rfl|rfl|rfl|rfl|rfl <;> exact⟨_,rfl,by omega,by omega⟩
 obtain⟨s,rfl,s0,s1⟩:=q1;obtain⟨m,rfl,m0,m1'⟩:=q2;refine⟨1 + c % 8,s,m, ?_,by omega,by omega,s0,s1,m0,m1'⟩;have dv:∀x y:Int,0 < y→y < 18446744073709551616→n_4 (.int x) (.int y)= .ok (.sh (.int (x / y))):=fun x y h h'=>m_9 h (by omega)
 simp_arith [p_7,al_0,evs,ec,em,l_4,c_2 (show(0:Int) < 8 by decide),c_2 (show(0:Int) < 4 by decide),c_2 (show(0:Int) < 9 by decide),c_2 (show(0:Int) < 1000 by decide),c_2 (show(0:Int) < 999999999 by decide),dv _ 64 (by decide) (by decide),dv _ 32 (by decide) (by decide),dv _ 8 (by decide) (by decide),cp_5,n_6 e1,n_6 e2]
def wr:Nat→Int→List Nat→List Nat
 |0,_,zn=>zn
 |j + 1,r,zn=>wr j (r / 2) ((48 + (r % 2).toNat)::zn)
def mkS(l:List Nat):Str:=⟨l.toArray⟩
theorem i_0(l:List Nat):(mkS l).cps.toList=l:=by simp [mkS]
theorem k_4(l:List Nat):(mkS l).length=l.length:=by rw [bd_1,i_0]
theorem bf_8(a b:List Nat):mkS a ++ mkS b=mkS (a ++ b):=an_5 (by rw [cx_0,i_0,i_0,i_0])
def sgL:List Nat:= [97,98,99,100,101,102,103,104,105,106,107,108,109,110,111,112,113,114,115,116,117,118,119,120,121,122,48,49,50,51,52,53,54,55,56,57,45,95,32]
theorem cz_8:(Str.ofString "abcdefghijklmnopqrstuvwxyz0123456789-_ ").cps.toList=sgL:=by decide +kernel
def d_4(d:D):Prop:=(∃n:Int,d= .int n∧0≤n∧n≤999999999999999999)∨(∃l:List Nat,d= .str (mkS l)∧l.length≤11∧∀c∈l,c∈sgL)
theorem dp_5(r:Int):∃c∈sgL,ixD (.str "abcdefghijklmnopqrstuvwxyz0123456789-_ ") (.int (r % 39))= .ok (.sh (.str (mkS [c]))):=by
 have h0:=Int.emod_nonneg r (show(39:Int)≠0 by decide);have h1:=Int.emod_lt_of_pos r (show(0:Int) < 39 by decide);have hl:(r % 39).toNat < sgL.length:=by show(r % 39).toNat < 39;omega
 refine⟨sgL[(r % 39).toNat],List.getElem_mem hl,by_1 (by decide +kernel) ?_⟩;rw [cz_8];exact bd_3 h0 (List.getElem?_eq_getElem hl)
theorem bf_9(z:Int):∃l:List Nat,n_0 [.int z]= .ok (.sh (.str (mkS l)))∧(l.length:Int)=z % 12∧l.length≤11∧∀c∈l,c∈sgL:=by
 have b0:=Int.emod_nonneg z (show(12:Int)≠0 by decide);have b1:=Int.emod_lt_of_pos z (show(0:Int) < 12 by decide);obtain⟨Δ',e,l,r,a5,rfl,hl,hc⟩:=ce_7 (gV 3) w_4 (fun k Δ=>∃(l:List Nat) (r:Int) (a5:Sl),Δ= [.sh (.int z), .sh (.str (mkS l)), .sh (.int r),a5]∧l.length=k∧∀c∈l,c∈sgL)
  (n:=(z % 12).toNat) (lo:=0) (Δ:= [.sh (.int z), .sh (.str ""), .sh (.int (z / 12)), .no]) ⟨[],z / 12, .no,rfl,rfl,fun c hc=>absurd hc (by simp)⟩ (fun k Δ hk hI=>by
  obtain⟨l,r,a5,rfl,hl,hc⟩:=hI;obtain⟨c,hcs,ec⟩:=dp_5 r;have zk:(mkS l).length + (mkS [c]).length≤16777216:=by rw [k_4,k_4];simp;omega
  refine⟨_,rfl, [.sh (.int z), .sh (.str (mkS (l ++ [c]))), .sh (.int (r / 39)), .sh (.int (0 + (k:Int)))], .inl ?_,_,_,_,rfl,by simp [hl], ?_⟩
  ·simp_arith [w_4,gV,List.set_cons_succ,List.set_cons_zero,evs,c_2 (show(0:Int) < 39 by decide),ec,bd_2 zk,bf_8,m_9 (show(0:Int) < 39 by decide) (by decide)]
  ·intro d hd;rcases List.mem_append.mp hd with hd|hd
   ·exact hc d hd
   ·have:d=c:=by simpa using hd
    rw [this];exact hcs)
 refine⟨l, ?_,by omega,by omega,hc⟩
 simp_arith [n_0,as_5,evs,m_9 (show(0:Int) < 12 by decide) (by decide),c_2 (show(0:Int) < 12 by decide),sFor,bd_4 (show -4611686018427387903≤z % 12 by omega) (by omega),e]
theorem cp_7(z:Int):∃d,d_4 d∧j_3 [.int z]= .ok (.sh d):=by
 have d4:=m_9 (i:=z) (show(0:Int) < 4 by decide) (by decide);have m4:=c_2 (i:=z) (show(0:Int) < 4 by decide);have p18:=ar_2 (y_6 (i:=10) (j:=18) (by decide) (by decide) (by decide) (by decide));have e18:(10:Int) ^ (18:Int).toNat=1000000000000000000:=by decide
 rw [e18] at p18;have:z % 4=0∨z % 4=1∨z % 4=2∨z % 4=3:=by omega
 rcases this with h|h|h|h
 ·refine⟨.int (z / 4 % 1000000000000000000), .inl ⟨_,rfl,by omega,by omega⟩, ?_⟩
  simp_arith [j_3,v_2,evs,d4,m4,e_9,h,p18,c_2 (show(0:Int) < 1000000000000000000 by decide)]
 ·obtain⟨l,e,_,h1,h2⟩:=bf_9 (z / 4);refine⟨.str (mkS l), .inr ⟨l,rfl,h1,h2⟩, ?_⟩;have n0:¬(1:Int)=0:=by decide
  simp_arith [j_3,v_2,evs,d4,m4,e_9,h,n0,e]
 ·refine⟨.int (z / 4 % 50), .inl ⟨_,rfl,by omega,by omega⟩, ?_⟩;have n0:¬(2:Int)=0:=by decide
  have n1:¬(2:Int)=1:=by decide
  have e:atI [D.int 50,D.int 12] ((2:Int) - 2)=some (.int 50):=rfl
  simp_arith [j_3,v_2,evs,d4,m4,e_9,h,n0,n1,y_4,n_6 e,c_2 (show(0:Int) < 50 by decide)]
 ·refine⟨.int (z / 4 % 12), .inl ⟨_,rfl,by omega,by omega⟩, ?_⟩;have n0:¬(3:Int)=0:=by decide
  have n1:¬(3:Int)=1:=by decide
  have e:atI [D.int 50,D.int 12] ((3:Int) - 2)=some (.int 12):=rfl
  simp_arith [j_3,v_2,evs,d4,m4,e_9,h,n0,n1,y_4,n_6 e,c_2 (show(0:Int) < 12 by decide)]
theorem ca_0{a b:D}(ha:d_4 a)(hb:d_4 b):eqF a b=true↔a=b:=by
 rcases ha with⟨n,rfl,_⟩|⟨l,rfl,_⟩ <;> rcases hb with⟨m,rfl,_⟩|⟨k,rfl,_⟩
 ·show(n ==m)=true↔_;rw [beq_iff_eq];exact⟨fun h=>by rw [h],fun h=>by injection h⟩
 ·show false=true↔_;exact⟨fun h=>(by cases h),fun h=>(by cases h)⟩
 ·show false=true↔_;exact⟨fun h=>(by cases h),fun h=>(by cases h)⟩
 ·show(mkS l ==mkS k)=true↔_;rw [beq_iff_eq];exact⟨fun h=>by rw [h],fun h=>by injection h⟩
theorem mem_iff{d:D}{ks:List D}(hd:d_4 d)(hk:∀k∈ks,d_4 k):memD d ks=true↔d∈ks:=by
 unfold memD;rw [List.any_eq_true];constructor
 ·rintro ⟨y,hy,h⟩
  rw [←(ca_0 (hk y hy) hd).mp h];exact hy
 ·intro h;exact⟨d,h,(ca_0 hd hd).mpr rfl⟩
theorem bg_0{d:D}(h:d_4 d):PyData.canLay0 (o_1 d)=true∧PyData.depth (o_1 d)=0:=by
 rcases h with⟨n,rfl,_⟩|⟨l,rfl,_,hc⟩
 ·exact⟨rfl,rfl⟩
 ·refine⟨?_,rfl⟩;show(mkS l).cps.all (· < 0x110000)=true;rw [←Array.all_toList,i_0,List.all_eq_true];intro c h;have:c∈sgL:=hc c h;have:∀c∈sgL,c < 0x110000:=by decide
  exact decide_eq_true (this c (hc c h))
theorem cz_9{a b:D}(ha:d_4 a)(hb:d_4 b):PyData.eqv (o_1 a) (o_1 b)=true↔a=b:=by
 rcases ha with⟨n,rfl,_⟩|⟨l,rfl,_⟩ <;> rcases hb with⟨m,rfl,_⟩|⟨k,rfl,_⟩
 ·show(n ==m)=true↔_;rw [beq_iff_eq];exact⟨fun h=>by rw [h],fun h=>by injection h⟩
 ·show false=true↔_;exact⟨fun h=>(by cases h),fun h=>(by cases h)⟩
 ·show false=true↔_;exact⟨fun h=>(by cases h),fun h=>(by cases h)⟩
 ·show(mkS l ==mkS k)=true↔_;rw [beq_iff_eq];exact⟨fun h=>by rw [h],fun h=>by injection h⟩
def sgI(c:Nat):Nat:=sgL.idxOf c
theorem dj_8:∀c∈sgL,Builtin.Str.occurrences "abcdefghijklmnopqrstuvwxyz0123456789-_ " ⟨#[c]⟩ 0 (Str.length "abcdefghijklmnopqrstuvwxyz0123456789-_ ") 1= [sgI c]:=by decide +kernel
theorem bt_2:∀c∈sgL,sgI c < 39:=by decide +kernel
def j_5(l:List Nat):Int:=l.foldl (fun a c=>40 * a + (sgI c:Int) + 1) 0
theorem bn_5(l:List Nat)(k c:Nat)(h:l[k]? =some c):j_5 (l.take (k + 1))=40 * j_5 (l.take k) + (sgI c:Int) + 1:=by
 unfold j_5;rw [List.take_add_one,h,List.foldl_append];rfl
def g_1:D→Int
 | .int n=>2 * n
 | .str x=>2 * j_5 x.cps.toList + 1
 |_=>0
theorem cp_8:∀c∈sgL,Txt.find "abcdefghijklmnopqrstuvwxyz0123456789-_ " ⟨#[c]⟩=((sgI c:Nat):Int):=by decide +kernel
theorem da_0{c:Nat}(h:c∈sgL):bi_9 (.str "abcdefghijklmnopqrstuvwxyz0123456789-_ ") [.str ⟨#[c]⟩]= .ok (.sh (.int (sgI c:Int))):=by
 show R.ok (W.sh (D.int (Txt.find "abcdefghijklmnopqrstuvwxyz0123456789-_ " ⟨#[c]⟩)))=_;rw [cp_8 c h]
theorem dp_6{c:Nat}(h:c∈sgL):inD false (.str ⟨#[c]⟩) (.str "abcdefghijklmnopqrstuvwxyz0123456789-_ ")= .ok (.sh (.bl true)):=by
 show R.ok (W.sh (D.bl (!(Builtin.Str.occurrences "abcdefghijklmnopqrstuvwxyz0123456789-_ " ⟨#[c]⟩ 0 (Str.length "abcdefghijklmnopqrstuvwxyz0123456789-_ ") 1).isEmpty)))=_;rw [dj_8 c h];rfl
theorem q_0(l:List Nat):r_7 (mkS l)=l.map fun c=> .str ⟨#[c]⟩:=by unfold r_7;rw [i_0]
theorem cp_9(l:List Nat)(hl:l.length≤11)(hc:∀c∈l,c∈sgL):ag_7 [.str (mkS l)]= .ok (.sh (.int (j_5 l))):=by
 obtain⟨Δ',e,a2,rfl⟩:=aa_7 (gV 2) aj_4 (fun k Δ=>∃a2,Δ= [.sh (.str (mkS l)), .sh (.int (j_5 (l.take k))),a2]) (ds:=r_7 (mkS l)) (Δ:= [.sh (.str (mkS l)), .sh (.int 0), .no]) ⟨.no,rfl⟩ (fun k d Δ hk hI=>by
  obtain⟨a2,rfl⟩:=hI;rw [q_0,List.getElem?_map] at hk;cases q:l[k]? with
  |none=>rw [q] at hk;cases hk
  |some c=>
   rw [q] at hk;cases hk;refine⟨_,rfl, [.sh (.str (mkS l)), .sh (.int (j_5 (l.take (k + 1)))), .sh (.str ⟨#[c]⟩)], .inl ?_,_,rfl⟩;rw [bn_5 l k c q]
   simp_arith [aj_4,evs,l_3 (r_9 (show(-18446744073709551616:Int) < 40 by decide) (by decide)),beq_self_eq_true,da_0 (hc c (List.mem_of_getElem? q)),l_4])
 rw [q_0,List.length_map,List.take_length] at e
 simp_arith [ag_7,bz_7,evs,sFor,q_0,e]
theorem cg_1{d:D}(h:d_4 d):m_4 [d]= .ok (.sh (.bl true)):=by
 rcases h with⟨n,rfl,h0,h1⟩|⟨l,rfl,hl,hc⟩
 ·simp_arith [m_4,v_3,evs,t_7,y_5,h0,h1]
 ·have hx:(mkS l).length≤16777216:=by rw [k_4];omega
  have ec:=bj_4 (fg:=gC 1) (f:=f_9) (δ:= [some (.str (mkS l)),none]) (fun _=> .bl true) (r_7 (mkS l)) (fun d hd=>by
   rw [q_0] at hd;obtain⟨c,hcl,rfl⟩:=List.mem_map.mp hd;exact⟨_, .sh (.bl true),rfl,by simp_arith [f_9,evs,dp_6 (hc c hcl)],rfl⟩)
  have ec':=u_9 (m:=1) (fi:=iOf (eVar 0)) (fg:=gC 1) (p:=fun _=> .ok true) (f:=f_9) (δ:= [some (.str (mkS l))]) (by simp_arith [evs]) (by rw [q_0,List.length_map];omega) ec;have ha:allD [.lst ((r_7 (mkS l)).map fun _=>D.bl true)]= .ok (.sh (.bl true)):=by
   have hb:∀l:List D,y_2 (l.map fun _=>D.bl true)=some (l.map fun _=>true):=by
    intro l
    induction l with
    |nil=>rfl
    |cons a l ih=>show(y_2 (l.map fun _=>D.bl true)).map (true:: ·)=_;rw [ih];rfl
   unfold allD;simp only [hb]
   congr 3
   rw [List.all_eq_true];intro b hb';obtain⟨_,_,rfl⟩:=List.mem_map.mp hb';rfl
  have ft:((mkS l).length:Int)≤11:=by rw [k_4];omega
  have et:g_4 [.str (mkS l)]= .ok (.sh (.bl true)):=by
   simp_arith [g_4,p_1,evs,ag_2 hx,y_5,ft,ec',ha]
  simp_arith [m_4,v_3,evs,et]
theorem as_7{d:D}(h:d_4 d):i_8 [d]= .ok (.sh (.int (g_1 d))):=by
 have hk:=cg_1 h;have m2:=fun j:Int=>l_3 (r_9 (j:=j) (show(-18446744073709551616:Int) < 2 by decide) (by decide));rcases h with⟨n,rfl,h0,h1⟩|⟨l,rfl,hl,hc⟩
 ·simp_arith [i_8,an_9,evs,hk,m2,g_1]
 ·simp_arith [i_8,an_9,evs,hk,cp_9 l hl hc,m2,l_4,g_1,i_0]
def z_7(n s z:Int):Int:=
 (((1 + (1103515245 * s + 12345) % (2305843009213693951 - 1)) * n + (69069 * s * s + 7 * s) % 2305843009213693951) % 2305843009213693951 + ((1 + (1103515245 * s + 12345) % (2305843009213693951 - 1)) * n + (69069 * s * s + 7 * s) % 2305843009213693951) % 2305843009213693951 / 2147483648) % z
theorem cq_0(n s z:Int)(h1: -18446744073709551616 < s)(h2:s < 18446744073709551616)(hz:0 < z):ag_8 [.int n, .int s, .int z]= .ok (.sh (.int (z_7 n s z)))∧True:=by
 have n0:¬z=0:=by omega
 have f0:=Int.emod_nonneg (1103515245 * s + 12345) (show(2305843009213693951 - 1:Int)≠0 by decide);have f1:=Int.emod_lt_of_pos (1103515245 * s + 12345) (show(0:Int) < 2305843009213693951 - 1 by decide);have a1:=l_3 (r_9 (i:=1103515245) (j:=s) (by decide) (by decide));have a2:=l_3 (r_9 (i:=69069) (j:=s) (by decide) (by decide));have a3:=l_3 (ai_6 (i:=69069 * s) (j:=s) h1 h2);have a4:=l_3 (r_9 (i:=7) (j:=s) (by decide) (by decide));have a5:=l_3 (r_9 (i:=1 + (1103515245 * s + 12345) % (2305843009213693951 - 1)) (j:=n) (by omega) (by omega));have c1:=fun i:Int=>c_2 (i:=i) (show(0:Int) < 2305843009213693951 - 1 by decide);have c2:=fun i:Int=>c_2 (i:=i) (show(0:Int) < 2305843009213693951 by decide);have c3:=fun i:Int=>c_2 (i:=i) hz;have c4:=fun i:Int=>m_9 (i:=i) (show(0:Int) < 2147483648 by decide) (by decide);refine⟨?_, ?_⟩
 ·simp_arith [ag_8,bz_8,evs,e_9,n0,y_4,l_4,a1,a2,a3,a4,c1,c2,a5,c4,c3]
  rfl
 ·trivial
end My
namespace L3
open PySem L2
end L3
namespace My
open PySem L2 L3
def ad_4(d:D):Prop:=(∃n:Int,d= .int n∧(n < 0∨999999999999999999 < n))∨(∃l:List Nat,d= .str (mkS l)∧l.length≤100∧(11 < l.length∨∃c∈l,∃b,inD false (.str ⟨#[c]⟩) (.str "abcdefghijklmnopqrstuvwxyz0123456789-_ ")= .ok (.sh (.bl b))∧b=false))
def inB(c:Nat):Bool:= !(Builtin.Str.occurrences "abcdefghijklmnopqrstuvwxyz0123456789-_ " ⟨#[c]⟩ 0 (Str.length "abcdefghijklmnopqrstuvwxyz0123456789-_ ") 1).isEmpty
theorem in_B(c:Nat):inD false (.str ⟨#[c]⟩) (.str "abcdefghijklmnopqrstuvwxyz0123456789-_ ")= .ok (.sh (.bl (inB c))):=rfl
theorem as_8:∀l:List Nat,y_2 (l.map fun c=>D.bl (inB c))=some (l.map inB)
 | []=>rfl
 |a::l=>by
  show(y_2 (l.map fun c=>D.bl (inB c))).map (inB a:: ·)=_;rw [as_8 l];rfl
theorem cg_2{d:D}(h:ad_4 d):m_4 [d]= .ok (.sh (.bl false)):=by
 rcases h with⟨n,rfl,h⟩|⟨l,rfl,hl,h⟩
 ·by_cases h0:0≤n
  ·have h1:¬n≤999999999999999999:=by omega
   simp_arith [m_4,v_3,evs,t_7,y_5,h0,h1]
  ·simp_arith [m_4,v_3,evs,t_7,y_5,h0]
 ·have hx:(mkS l).length≤16777216:=by rw [k_4];omega
  have et:g_4 [.str (mkS l)]= .ok (.sh (.bl false)):=by
   by_cases h11:((mkS l).length:Int)≤11
   ·have hin:∃c∈l,inB c=false:=by
     rcases h with h|⟨c,hc,b,e,hb⟩
     ·rw [k_4] at h11;omega
     ·refine⟨c,hc, ?_⟩;rw [in_B] at e;subst hb;injection e with e
      injection e with e
      injection e
    have ec:=bj_4 (fg:=gC 1) (f:=f_9) (δ:= [some (.str (mkS l)),none]) (fun d=>match d with| .str x=> .bl (inB (x.cps.toList.headD 0))|d=>d) (r_7 (mkS l)) (fun d hd=>by
     rw [q_0] at hd;obtain⟨c,hcl,rfl⟩:=List.mem_map.mp hd;exact⟨_, .sh (.bl (inB c)),rfl,by simp_arith [f_9,evs,in_B c],rfl⟩)
    have ec':=u_9 (m:=1) (fi:=iOf (eVar 0)) (fg:=gC 1) (p:=fun _=> .ok true) (f:=f_9) (δ:= [some (.str (mkS l))]) (by simp_arith [evs]) (by rw [q_0,List.length_map];omega) ec;have em:(r_7 (mkS l)).map (fun d=>match d with| .str x=>D.bl (inB (x.cps.toList.headD 0))|d=>d)=l.map fun c=>D.bl (inB c):=by
     rw [q_0,List.map_map];rfl
    rw [em] at ec';have ha:allD [.lst (l.map fun c=>D.bl (inB c))]= .ok (.sh (.bl false)):=by
     unfold allD;simp only [as_8]
     congr 3
     obtain⟨c,hc,e⟩:=hin;cases q:(l.map inB).all id with
     |false=>rfl
     |true=>
      have:=List.all_eq_true.mp q (inB c) (List.mem_map.mpr ⟨c,hc,rfl⟩);rw [e] at this;cases this
    simp_arith [g_4,p_1,evs,ag_2 hx,y_5,h11,ec',ha]
   ·simp_arith [g_4,p_1,evs,ag_2 hx,y_5,h11]
  simp_arith [m_4,v_3,evs,et]
def kOf:D→Key
 | .int i=> .inl i
 | .str x=> .inr x
 |_=> .inl 0
theorem v_5{d:D}(h:d_4 d):q_4 d=some (kOf d):=by
 rcases h with⟨n,rfl,_⟩|⟨l,rfl,_⟩ <;> rfl
theorem ca_1{a b:D}(ha:d_4 a)(hb:d_4 b)(e:kOf a=kOf b):a=b:=by
 rcases ha with⟨n,rfl,_⟩|⟨l,rfl,_⟩ <;> rcases hb with⟨m,rfl,_⟩|⟨k,rfl,_⟩
 ·injection e with e;rw [e]
 ·cases e
 ·cases e
 ·injection e with e;rw [e]
def h_2(n:Nat):Xn:=⟨"NoKey", ["at"], [.int (n:Int)]⟩
def u_2(d:D)(salt part:Int)(j:Int):Int:=j * part + z_7 (g_1 d) (4 * salt + j) part
def r_3(d:D)(salt kind part:Int):List D:=(List.range kind.toNat).map fun(k:Nat)=>D.int (u_2 d salt part (0 + (k:Int)))
theorem cg_3{d:D}(h:d_4 d)(salt kind part:Int)(s0:0≤salt)(s1:salt≤1003000000000)(hk:kind=2∨kind=3)(p0:0 < part)(p1:part≤2000):
  l_7 [d, .int salt, .int kind, .int part]= .ok (.sh (.tup (r_3 d salt kind part)))∧True:=by
 have hr:=bd_4 (j:=kind) (by omega) (by omega);have hl:(q_7 0 kind.toNat).length≤16777216:=by rw [ax_6];omega
 have bx:∀k:Nat,k < kind.toNat→mulC (0 + (k:Int)) part=true∧mulC 4 salt=true:=fun k hk=>⟨r_9 (by omega) (by omega),r_9 (by decide) (by decide)⟩;refine⟨?_,trivial⟩
 ·have ec:=ce_8 (fg:=gC 5) (p:=fun _=> .ok true) (f:=p_3) (δ:= [some d,some (.int salt),some (.int kind),some (.int part),some (.int (g_1 d)),none]) (F:=fun i=> .int (u_2 d salt part i)) kind.toNat 0 (fun k hk'=>by
   obtain⟨m1,m2⟩:=bx k hk';refine⟨[some d,some (.int salt),some (.int kind),some (.int part),some (.int (g_1 d)),some (.int (0 + (k:Int)))], .sh (.int (u_2 d salt part (0 + (k:Int)))),rfl,rfl, ?_,rfl⟩
   simp_arith [p_3,evs,l_3 m1,l_3 m2,l_4,(cq_0 (g_1 d) (4 * salt + (0 + (k:Int))) part (by omega) (by omega) p0).1,u_2])
  have ec':=u_9 (m:=1) (fi:=iArgs rng1 (aCons (eVar 2) aNil)) (fg:=gC 5) (p:=fun _=> .ok true) (f:=p_3) (δ:= [some d,some (.int salt),some (.int kind),some (.int part),some (.int (g_1 d))]) (by simp_arith [evs,hr]) hl ec
  simp_arith [l_7,z_3,evs,as_7 h,ec',cl_2]
  rfl
theorem bn_6{d:D}(h:ad_4 d):i_8 [d]= .ex (h_2 0):=by
 simp_arith [i_8,an_9,evs,cg_2 h,tNotF,t_9,h_2]
 rfl
theorem cg_4{d:D}(h:ad_4 d)(a b c:D):l_7 [d,a,b,c]= .ex (h_2 0):=by
 simp_arith [l_7,z_3,evs,bn_6 h]
theorem ah_1(z m:Int)(m0:0≤m)(m1:m≤1000000001):∃v:Int,e_2 [.int z, .int m]= .ok (.sh (.int v))∧(v < 0∨m≤v):=by
 have i0:=Int.emod_nonneg z (show(4:Int)≠0 by decide);have i1:=Int.emod_lt_of_pos z (show(0:Int) < 4 by decide);have p30:=ar_2 (y_6 (i:=10) (j:=30) (by decide) (by decide) (by decide) (by decide));have e30:(10:Int) ^ (30:Int).toNat=1000000000000000000000000000000:=by decide
 rw [e30] at p30;have z0:=Int.emod_nonneg z (show(1000000000000000000000000000000:Int)≠0 by decide);obtain⟨d,hd,e⟩:=ah_0 (ds:= [.int (-1), .int m, .int (0 - 1 - z % 1000000000000000000000000000000), .int (m + z % 1000000000000000000000000000000)]) i0 i1;have q:∃v,d= .int v∧(v < 0∨m≤v):=by
  simp only [List.mem_cons,List.not_mem_nil,or_false] at hd;rcases hd with rfl|rfl|rfl|rfl
  ·exact⟨_,rfl, .inl (by decide)⟩
  ·exact⟨_,rfl, .inr (by omega)⟩
  ·exact⟨_,rfl, .inl (by omega)⟩
  ·exact⟨_,rfl, .inr (by omega)⟩
 obtain⟨v,rfl,hv⟩:=q;refine⟨v, ?_,hv⟩
 simp_arith [e_2,x_4,evs,eNeg,negD,p30,y_4,l_4,c_2 (show(0:Int) < 4 by decide),c_2 (show(0:Int) < 1000000000000000000000000000000 by decide),Int.reduceNeg,n_6 e]
theorem dp_7(l:List Nat)(a:Nat)(h:a≤l.length):Txt.slice (mkS l) none (some (a:Int))=mkS (l.take a):=an_5 (by rw [ae_0,i_0,i_0,dj_7 l a h])
theorem da_1(l:List Nat)(a:Nat)(h:a≤l.length):Txt.slice (mkS l) (some (a:Int)) none=mkS (l.drop a):=an_5 (by rw [ae_0,i_0,i_0,cp_1 l a h])
def badL:List Nat:= [65,90,46,35,33,126,10,9,47,58,64,91,123]
theorem cq_1:(Str.ofString "AZ.#!~\n\t/:\x40[{").cps.toList=badL:=by decide +kernel
theorem dk_0:∀c∈badL,inB c=false:=by decide +kernel
theorem ba_9{x:Str}{l:List Nat}(h:x.cps.toList=l)(hl:l.length≤100){n:Int}(h0:0≤n)(h1:n < l.length):∃c∈l,ixD (.str x) (.int n)= .ok (.sh (.str (mkS [c]))):=by
 have hn:n.toNat < l.length:=by omega
 refine⟨l[n.toNat],List.getElem_mem hn,by_1 (by rw [bd_1,h];omega) ?_⟩;rw [h];exact bd_3 h0 (List.getElem?_eq_getElem hn)
theorem da_2:Txt.slice "abcdefghijk0" none (some 11)=mkS [97,98,99,100,101,102,103,104,105,106,107]:=an_5 (by rw [ae_0,i_0];decide +kernel)
theorem cg_5(z:Int):∃d,ad_4 d∧f_5 [.int z]= .ok (.sh d):=by
 have p18:=ar_2 (y_6 (i:=10) (j:=18) (by decide) (by decide) (by decide) (by decide));have p20:=ar_2 (y_6 (i:=10) (j:=20) (by decide) (by decide) (by decide) (by decide));have p21:=ar_2 (y_6 (i:=10) (j:=21) (by decide) (by decide) (by decide) (by decide));have e18:(10:Int) ^ (18:Int).toNat=1000000000000000000:=by decide
 have e20:(10:Int) ^ (20:Int).toNat=100000000000000000000:=by decide
 have e21:(10:Int) ^ (21:Int).toNat=1000000000000000000000:=by decide
 rw [e18] at p18;rw [e20] at p20;rw [e21] at p21;have d5:=m_9 (i:=z) (show(0:Int) < 5 by decide) (by decide);have m5:=c_2 (i:=z) (show(0:Int) < 5 by decide);generalize z / 5=r at d5;have m2:=c_2 (i:=r) (show(0:Int) < 2 by decide);have r0:=Int.emod_nonneg r (show(2:Int)≠0 by decide);have r1:=Int.emod_lt_of_pos r (show(0:Int) < 2 by decide);have:z % 5=0∨z % 5=1∨z % 5=2∨(z % 5≠0∧z % 5≠1∧z % 5≠2):=by omega
 rcases this with h|h|h|⟨h0,h1,h2⟩
 ·obtain⟨d,hd,e⟩:=ah_0 (ds:= [.int (-1), .int (0 - 1 - r % 100000000000000000000)]) r0 r1;have b2:=Int.emod_nonneg r (show(100000000000000000000:Int)≠0 by decide);refine⟨d, .inl ?_, ?_⟩
  ·simp only [List.mem_cons,List.not_mem_nil,or_false] at hd;rcases hd with rfl|rfl
   ·exact⟨_,rfl, .inl (by decide)⟩
   ·exact⟨_,rfl, .inl (by omega)⟩
  ·simp_arith [f_5,n_9,evs,d5,m5,e_9,h,eNeg,negD,Int.reduceNeg,p20,c_2 (show(0:Int) < 100000000000000000000 by decide),y_4,m2,n_6 e]
 ·obtain⟨d,hd,e⟩:=ah_0 (ds:= [.int 0, .int (r % 1000000000000000000000)]) r0 r1;have b2:=Int.emod_nonneg r (show(1000000000000000000000:Int)≠0 by decide);have q:∃n:Int,d= .int n∧0≤n:=by
   simp only [List.mem_cons,List.not_mem_nil,or_false] at hd;rcases hd with rfl|rfl
   ·exact⟨_,rfl,by decide⟩
   ·exact⟨_,rfl,by omega⟩
  obtain⟨n,rfl,hn⟩:=q;have n0:¬(1:Int)=0:=by decide
  refine⟨.int (1000000000000000000 + n), .inl ⟨_,rfl, .inr (by omega)⟩, ?_⟩
  simp_arith [f_5,n_9,evs,d5,m5,e_9,h,n0,p18,p21,c_2 (show(0:Int) < 1000000000000000000000 by decide),l_4,m2,n_6 e]
 ·obtain⟨l,e,el,l1,l2⟩:=bf_9 (1 + r % 4 + r / 4 * 12);have n0:¬(2:Int)=0:=by decide
  have n1:¬(2:Int)=1:=by decide
  have k0:=Int.emod_nonneg r (show(4:Int)≠0 by decide);have k1:=Int.emod_lt_of_pos r (show(0:Int) < 4 by decide);have hl:1≤l.length:=by omega
  have mm:mulC (r / 4) 12=true:=ai_6 (by decide) (by decide);have c1:(mkS [97,98,99,100,101,102,103,104,105,106,107]).length + (mkS l).length≤16777216:=by rw [k_4,k_4];simp;omega
  have hz:(Str.length "abcdefghijk0")≤16777216:=by decide +kernel
  refine⟨.str (mkS ([97,98,99,100,101,102,103,104,105,106,107] ++ l)), .inr ⟨_,rfl,by simp;omega, .inl (by simp;omega)⟩, ?_⟩
  simp_arith [f_5,n_9,evs,d5,m5,e_9,h,n0,n1,aq_2,hz,da_2,c_2 (show(0:Int) < 4 by decide),m_9 (i:=r) (show(0:Int) < 4 by decide) (by decide),l_3 mm,l_4,e,bd_2 c1,bf_8]
 ·obtain⟨l,e,el,l1,l2⟩:=bf_9 (r % 11 + r / 11 * 12);have mm:mulC (r / 11) 12=true:=ai_6 (by decide) (by decide);have a0:=Int.emod_nonneg r (show(l.length:Int) + 1≠0 by omega);have a1:=Int.emod_lt_of_pos r (show(0:Int) < (l.length:Int) + 1 by omega);obtain⟨a,ha⟩:∃a:Nat,r % ((l.length:Int) + 1)=(a:Int):=⟨(r % ((l.length:Int) + 1)).toNat,by omega⟩;have zk:=ag_2 (x:=mkS l) (by rw [k_4];omega);rw [k_4] at zk;have hz:(mkS l).length≤16777216:=by rw [k_4];omega
  have g0:=Int.emod_nonneg (r / 12) (show(13:Int)≠0 by decide);have g1:=Int.emod_lt_of_pos (r / 12) (show(0:Int) < 13 by decide);obtain⟨b,hb,eb⟩:=ba_9 cq_1 (by decide) (n:=r / 12 % 13) g0 (by show r / 12 % 13 < ((13:Nat):Int);omega);have eb:ixD (.str "AZ.#!~\n\t/:\x40[{") (.int (r / 12 % 13))= .ok (.sh (.str (mkS [b]))):=eb;have c1:(mkS (l.take a)).length + (mkS [b]).length≤16777216:=by rw [k_4,k_4];simp;omega
  have c2:(mkS (l.take a ++ [b])).length + (mkS (l.drop a)).length≤16777216:=by rw [k_4,k_4];simp;omega
  refine⟨.str (mkS (l.take a ++ [b] ++ l.drop a)), .inr ⟨_,rfl,by simp;omega, .inr ⟨b,by simp,false,by rw [in_B,dk_0 b hb],rfl⟩⟩, ?_⟩
  simp_arith [f_5,n_9,evs,d5,m5,e_9,h0,h1,h2,c_2 (show(0:Int) < 11 by decide),m_9 (i:=r) (show(0:Int) < 11 by decide) (by decide),l_3 mm,l_4,e,zk,c_2 (show(0:Int) < (l.length:Int) + 1 by omega),ha,aq_2,hz,dp_7 l a (by omega),da_1 l a (by omega),m_9 (i:=r) (show(0:Int) < 12 by decide) (by decide),c_2 (show(0:Int) < 13 by decide),eb,bd_2 c1,bf_8,bd_2 c2]
def zi(ps:List Nat):List D:=ps.map fun(p:Nat)=>D.int (p:Int)
theorem bn_7(p n:Nat):h_1 [.int (p:Int), .int (n:Int)]= .ok (.sh (.bl (decide (p < n)))):=by
 simp_arith [h_1,w_5,evs,t_7,y_5,ak_6,show(0:Int)≤(p:Int) by omega]
 rw [show decide ((p:Int) < (n:Int))=decide (p < n) by simp]
theorem ah_2(z m:Int)(h:0 < m):n_3 [.int z, .int m]= .ok (.sh (.int (z % m))):=by
 simp_arith [n_3,al_1,evs,e_9,show¬m=0 by omega,c_2 h]
def at0(ts:List Int)(p:Nat):Int:=ts.getD p 0
def ca_2(ts:List Int)(ps:List Nat):Int:=(ps.map (at0 ts)).sum
theorem dk_1{ts:List Int}{p:Nat}(h:p < ts.length):atI (ts.map D.int) (p:Int)=some (.int (at0 ts p)):=by
 refine dp_4 ?_;rw [List.getElem?_map];simp [at0,List.getD,h]
theorem da_3(ts:List Int)(a1 a2 a3:Option D)(ps:List Nat)(h:∀p∈ps,p < ts.length):
  n_5 (gC 4) s_1 s_0 [some (.lst (ts.map .int)),a1,a2,a3,none] (zi ps)= .ok ((ps.map fun p=>D.int (at0 ts p))):=by
 have:=v_0 (fg:=gC 4) (p:=s_1) (f:=s_0) (δ:= [some (.lst (ts.map .int)),a1,a2,a3,none]) (fun _=>true) (fun d=>match d with| .int i=> .int (at0 ts i.toNat)|d=>d) (zi ps) fun d hd=>by
  obtain⟨p,hp,rfl⟩:=List.mem_map.mp hd;have hl:=h p hp;refine⟨[some (.lst (ts.map .int)),a1,a2,a3,some (.int (p:Int))],rfl, ?_,fun _=>⟨.sh (.int (at0 ts p)), ?_,by simp⟩⟩
  ·simp_arith [s_1,evs,t_2,List.length_map,bn_7,hl]
  ·simp_arith [s_0,evs,n_6 (dk_1 hl)]
 rw [this,List.filter_eq_self.mpr fun _ _=>rfl]
 congr 1
 unfold zi;rw [List.map_map];refine List.map_congr_left fun p _=> ?_;simp
theorem cg_6(ts:List Int)(ps:List Nat)(m:Int)(hm:0 < m)(h:∀p∈ps,p < ts.length)(hl:ps.length≤1000):z_4 [.lst (ts.map .int), .tup (zi ps), .int m]= .ok (.sh (.int (ca_2 ts ps % m))):=by
 have ec:=u_9 (m:=1) (fi:=iOf (eVar 1)) (fg:=gC 4) (p:=s_1) (f:=s_0) (δ:= [some (.lst (ts.map .int)),some (.tup (zi ps)),some (.int m),none]) (ds:=zi ps) (by simp_arith [evs]) (by unfold zi;rw [List.length_map];omega) (da_3 ts _ _ _ ps h)
 simp_arith [z_4,bn_3,evs,ec,dj_6,ah_2 _ m hm]
 rfl
def lN:List Str:= ["part", "by_salt", "modulus", "listed", "by_key"]
def a_7(p s m:Int)(T:List Int)(kds:List (Key×D)):Tn:= .obj "Living" lN [.sh (.int p), .sh (.int s), .sh (.int m), .sh (.lst (T.map .int)),Tn.of (.dic kds)]
def e_5(p s m:Int)(T:List Int)(kds:List (Key×D)):D:= .obj "Living" lN [.int p, .int s, .int m, .lst (T.map .int), .dic kds]
section
variable{p s m:Int}{T:List Int}{kds:List (Key×D)}{d:D}
theorem w_6:(a_7 p s m T kds).d=e_5 p s m T kds:=by
 have h:=Tn.of_d (.dic kds);show D.obj "Living" lN [.int p, .int s, .int m, .lst (T.map .int),(Tn.of (.dic kds)).d]=_;rw [h];rfl
theorem aj_6:∀kds:List (Key×D),Tn.lendsK (kds.map fun p=>(p.1,Tn.sh p.2))=true
 | []=>by simp only [List.map_nil,Tn.lendsK]
 |(k,d)::kds=>by simp only [List.map_cons,Tn.lendsK,Tn.lends,aj_6 kds,Bool.and_self]
theorem bt_3:(a_7 p s m T kds).lends=true:=by
 have h:(Tn.of (.dic kds)).lends=true:=by
  show Tn.lends (.dic (kds.map fun p=>(p.1, .sh p.2)))=true;simp only [Tn.lends,aj_6]
 simp only [a_7,Tn.lends,Tn.lendsL,h,Bool.and_self]
theorem fld{f:Str}{v:D}{e:FE}{δ:DE}(he:e δ= .ok (.sh (e_5 p s m T kds)))(h:(lN.zip [D.int p, .int s, .int m, .lst (T.map .int), .dic kds]).lookup f=some v):j_2 ["Living"] f e δ= .ok (.sh v):=by
 unfold j_2;rw [he];simp only [R.bind_ok,W.d_sh,e_5];rw [h];rfl
theorem ab_2(h:d_4 d)(s0:0≤s)(s1:s≤1003000000000)(p0:0 < p)(p1:p≤2000):b_1 [e_5 p s m T kds,d]= .ok (.sh (.tup (r_3 d s 2 p))):=by
 have e1:j_2 ["Living"] "by_salt" (eVar 0) [some (e_5 p s m T kds),some d]= .ok (.sh (.int s)):=fld rfl rfl;have e2:j_2 ["Living"] "part" (eVar 0) [some (e_5 p s m T kds),some d]= .ok (.sh (.int p)):=fld rfl rfl;have:=(cg_3 h s 2 p s0 s1 (.inl rfl) p0 p1).1
 simp_arith [b_1,q_6,evs,e1,e2,this]
theorem r_4(h:ad_4 d):b_1 [e_5 p s m T kds,d]= .ex (h_2 0):=by
 have e1:j_2 ["Living"] "by_salt" (eVar 0) [some (e_5 p s m T kds),some d]= .ok (.sh (.int s)):=fld rfl rfl;have e2:j_2 ["Living"] "part" (eVar 0) [some (e_5 p s m T kds),some d]= .ok (.sh (.int p)):=fld rfl rfl
 simp_arith [b_1,q_6,evs,e1,e2,cg_4 h,exG]
theorem cq_2(hl:T.length≤1000):c_4 [e_5 p s m T kds]= .ok (.ow (.lst (T.map .int))):=by
 have e1:j_2 ["Living"] "listed" (eVar 0) [some (e_5 p s m T kds)]= .ok (.sh (.lst (T.map .int))):=fld rfl rfl
 simp_arith [c_4,z_5,evs,e1,br_0]
end
theorem az_4:∀(Δ:SE) (n:Nat),y_9 [0] (n + 1) Δ=vsh Δ
 | [],_=>rfl
 |s::Δ,n=>by
  have h:([0]:List Nat).contains (n + 1)=false:=by simp
  simp only [y_9,h,Bool.false_eq_true,if_false,az_4 Δ (n + 1)];rfl
theorem cq_3(t:Tn)(Δ:SE):vsel [0] (.lt t::Δ)=some t.d::vsh Δ:=by
 show(if([0]:List Nat).contains 0=true then(Sl.lt t).any else(Sl.lt t).pub)::y_9 [0] (0 + 1) Δ=_;rw [az_4];rfl
section
variable{p s m:Int}{T:List Int}{kds:List (Key×D)}{d:D}{Δ:SE}{f:FE}
theorem aj_7:n_7 [0] (.lt (a_7 p s m T kds)::Δ)=true:=by
 have h:=bt_3 (p:=p) (s:=s) (m:=m) (T:=T) (kds:=kds);simp only [n_7,List.all_cons,List.all_nil,List.getElem?_cons_zero,Sl.own,h,Bool.and_self]
theorem w_7{w:W}(h:f (some (e_5 p s m T kds)::vsh Δ)= .ok w)(hp:u_0 w=true):j_6 [0] f (.lt (a_7 p s m T kds)::Δ)= .ok w.d (.lt (a_7 p s m T kds)::Δ):=by
 unfold j_6;rw [aj_7,if_pos rfl,cq_3,w_6,h];simp only [hp,if_true]
theorem ah_3{x:Xn}(h:f (some (e_5 p s m T kds)::vsh Δ)= .ex x)(hp:f_1 x.vs=true):j_6 [0] f (.lt (a_7 p s m T kds)::Δ)= .ex x (.lt (a_7 p s m T kds)::Δ):=by
 unfold j_6;rw [aj_7,if_pos rfl,cq_3,w_6,h];simp only [hp,if_true]
theorem met1{F:List D→R W}{n:Str}{e a:FE}{δ:DE}{w:W}(he:e δ= .ok (.sh (e_5 p s m T kds)))(ha:a δ= .ok w)(hn:lN.contains n=false):c_7 n 1 [("Living",F)] e (aCons a aNil) δ=F [e_5 p s m T kds,w.d]:=by
 unfold c_7;rw [he];simp only [R.bind_ok,W.d_sh,e_5,aCons,aNil,ha];rw [hn];rfl
theorem met0{F:List D→R W}{n:Str}{e:FE}{δ:DE}(he:e δ= .ok (.sh (e_5 p s m T kds)))(hn:lN.contains n=false):c_7 n 0 [("Living",F)] e aNil δ=F [e_5 p s m T kds]:=by
 unfold c_7;rw [he];simp only [R.bind_ok,W.d_sh,e_5,aNil];rw [hn];rfl
theorem t_4:f_1 (h_2 0).vs=true:=by decide +kernel
theorem bn_8(h:ad_4 d):c_6 [e_5 p s m T kds,d]= .ex (h_2 0):=by
 have e1:j_2 ["Living"] "listed" (eVar 0) [some (e_5 p s m T kds),some d]= .ok (.sh (.lst (T.map .int))):=fld rfl rfl;have e2:c_7 "places" 1 [("Living",b_1)] (eVar 0) (aCons (eVar 1) aNil) [some (e_5 p s m T kds),some d]= .ex (h_2 0):=(met1 (w:= .sh d) rfl rfl (by decide +kernel)).trans (r_4 h)
 simp_arith [c_6,s_2,evs,e1,e2,exG]
theorem bt_4(h:ad_4 d):g_6 [e_5 p s m T kds,d]= .ex (h_2 0):=by
 have e2:c_7 "places" 1 [("Living",b_1)] (eVar 0) (aCons (eVar 1) aNil) [some (e_5 p s m T kds),some d,none,none]= .ex (h_2 0):=(met1 (w:= .sh d) rfl rfl (by decide +kernel)).trans (r_4 h)
 simp_arith [g_6,ac_8,evs,e2]
theorem da_4(h:ad_4 d):b_8 (a_7 p s m T kds) [d]= .ex (h_2 0) (a_7 p s m T kds):=by
 have e:sExpr [1] (eFn 1 i_8 (aCons (eVar 1) aNil)) [.lt (a_7 p s m T kds), .sh d]= .ex (h_2 0) [.lt (a_7 p s m T kds), .sh d]:=by
  have hs:=bn_6 h;unfold sExpr
  simp_arith [evs,hs,exG,Sl.any,Sl.pub,Sl.give]
 unfold b_8 m_3 p_2;rw [show n_8 2 (a_7 p s m T kds) [d]= [.lt (a_7 p s m T kds), .sh d] from rfl];unfold sSeq;rw [e]
theorem dk_3(h:ad_4 d)(v:D):c_3 (a_7 p s m T kds) [d,v]= .ex (h_2 0) (a_7 p s m T kds):=by
 have e2:c_7 "places" 1 [("Living",b_1)] (eVar 0) (aCons (eVar 1) aNil) [some (e_5 p s m T kds),some d,some v,none,none,none]= .ex (h_2 0):=(met1 (w:= .sh d) rfl rfl (by decide +kernel)).trans (r_4 h);unfold c_3 m_3 r_2;rw [show n_8 6 (a_7 p s m T kds) [d,v]= [.lt (a_7 p s m T kds), .sh d, .sh v, .no, .no, .no] from rfl];unfold sSeq l_9;rw [ah_3 e2 t_4]
end
def q_1:Xn:=⟨"NoValue", ["at"], [.int 0]⟩
def w_8:Xn:=⟨"NoSuch", [], []⟩
def askR(x:Xn):D:= .lst [.str (if x.c= "NoKey" then "key" else if x.c= "NoValue" then "value" else "such"), .int 0, .bl true]
section
variable{p s m:Int}{T:List Int}{kds:List (Key×D)}{d v:D}{w:Int}
abbrev hdsA:List Hd:= [⟨some 5, [("NoKey",true),("NoSuch",false),("NoValue",false),("Stuck",false)],ac_9⟩,⟨some 5, [("NoKey",false),("NoSuch",false),("NoValue",true),("Stuck",false)],ad_0⟩,⟨some 5, [("NoKey",false),("NoSuch",true),("NoValue",false),("Stuck",false)],ad_1⟩]
theorem as_9{t:Tn}{x:Xn}(hx:x=h_2 0∨x=q_1∨x=w_8)(e:k_7 [.lt t, .sh (.int w), .sh d, .sh v, .sh .non, .no]= .ex x [.lt t, .sh (.int w), .sh d, .sh v, .sh .non, .no]):d_3 t [.int w,d,v]= .ok (askR x) t:=by
 have t2:ac_6 k_7 hdsA [.lt t, .sh (.int w), .sh d, .sh v, .sh .non, .no]= .nx [.lt t, .sh (.int w), .sh d, .sh v, .ow (askR x), .no]:=by
  unfold ac_6;rw [e];rcases hx with rfl|rfl|rfl
  ·rfl
  ·rfl
  ·rfl
 have t1:sSet 4 [] (eC .non) [.lt t, .sh (.int w), .sh d, .sh v, .no, .no]= .nx [.lt t, .sh (.int w), .sh d, .sh v, .sh .non, .no]:=rfl;have t3:l_6 (h_6 [4] (eVar 4)) [.lt t, .sh (.int w), .sh d, .sh v, .ow (askR x), .no]= .rv (askR x) [.lt t, .sh (.int w), .sh d, .sh v, .sh (askR x), .no]:=rfl;unfold d_3 m_3 al_3;rw [show n_8 6 t [.int w,d,v]= [.lt t, .sh (.int w), .sh d, .sh v, .no, .no] from rfl,b_4 t1,b_4 t2,t3]
theorem t_5{n:Nat}{mn:Str}{M:Tn→List D→RR}{ga:SE→R (List D)}{Δ:SE}{ds:List D}(hm:lN.contains mn=false)(hg:ga (.lt (a_7 p s m T kds)::Δ)= .ok ds)(hl:ds.length=n):m_0 0 n mn "Living" M ga (.lt (a_7 p s m T kds)::Δ)=goR 0 true (.lt (a_7 p s m T kds)::Δ) (M (a_7 p s m T kds) ds):=by
 have hb:((Sl.lt (a_7 p s m T kds)::Δ)[0]?).bind Sl.tree=some (a_7 p s m T kds,true):=rfl;unfold m_0;rw [hb];unfold a_7 at hg⊢;simp only [hm,and_self,if_true,hg,hl]
theorem cq_4(h:ad_4 d)(w0:0≤w)(w1:w < 5):d_3 (a_7 p s m T kds) [.int w,d,v]= .ok (askR (h_2 0)) (a_7 p s m T kds):=by
 refine as_9 (.inl rfl) ?_;have e0:c_7 "value" 1 [("Living",c_6)] (eVar 0) (aCons (eVar 2) aNil) [some (e_5 p s m T kds),some (.int w),some d,some v,some .non,none]= .ex (h_2 0):=(met1 (w:= .sh d) rfl rfl (by decide +kernel)).trans (bn_8 h);have e1:c_7 "places" 1 [("Living",b_1)] (eVar 0) (aCons (eVar 2) aNil) [some (e_5 p s m T kds),some (.int w),some d,some v,some .non,none]= .ex (h_2 0):=(met1 (w:= .sh d) rfl rfl (by decide +kernel)).trans (r_4 h);have e2:c_7 "ring" 1 [("Living",g_6)] (eVar 0) (aCons (eVar 2) aNil) [some (e_5 p s m T kds),some (.int w),some d,some v,some .non,none]= .ex (h_2 0):=(met1 (w:= .sh d) rfl rfl (by decide +kernel)).trans (bt_4 h);have l0:=ah_3 (Δ:= [.sh (.int w), .sh d, .sh v, .sh .non, .no]) e0 t_4;have l1:=ah_3 (Δ:= [.sh (.int w), .sh d, .sh v, .sh .non, .no]) e1 t_4;have l2:=ah_3 (Δ:= [.sh (.int w), .sh d, .sh v, .sh .non, .no]) e2 t_4;have l3:d_5 [2] (m_0 0 1 "drop" "Living" b_8 (a_8 (eVar 2) h_0)) [.lt (a_7 p s m T kds), .sh (.int w), .sh d, .sh v, .sh .non, .no]= .ex (h_2 0) [.lt (a_7 p s m T kds), .sh (.int w), .sh d, .sh v, .sh .non, .no]:=by
  have:=t_5 (p:=p) (s:=s) (m:=m) (T:=T) (kds:=kds) (M:=b_8) (ga:=a_8 (eVar 2) h_0) (Δ:= [.sh (.int w), .sh d, .sh v, .sh .non, .no]) (ds:= [d]) (mn:= "drop") (by decide +kernel) rfl rfl;rw [da_4 h] at this;exact this
 have l4:d_5 [2,3] (m_0 0 2 "put" "Living" c_3 (a_8 (eVar 2) (a_8 (eVar 3) h_0))) [.lt (a_7 p s m T kds), .sh (.int w), .sh d, .sh v, .sh .non, .no]= .ex (h_2 0) [.lt (a_7 p s m T kds), .sh (.int w), .sh d, .sh v, .sh .non, .no]:=by
  have:=t_5 (p:=p) (s:=s) (m:=m) (T:=T) (kds:=kds) (M:=c_3) (ga:=a_8 (eVar 2) (a_8 (eVar 3) h_0)) (Δ:= [.sh (.int w), .sh d, .sh v, .sh .non, .no]) (ds:= [d,v]) (mn:= "put") (by decide +kernel) rfl rfl;rw [dk_3 h] at this;exact this
 generalize a_7 p s m T kds=t at l0 l1 l2 l3 l4⊢;have hw:w=0∨w=1∨w=2∨w=3∨w=4:=by omega
 have n10:¬(1:Int)=0:=by decide
 have n20:¬(2:Int)=0:=by decide
 have n21:¬(2:Int)=1:=by decide
 have n30:¬(3:Int)=0:=by decide
 have n31:¬(3:Int)=1:=by decide
 have n32:¬(3:Int)=2:=by decide
 have n40:¬(4:Int)=0:=by decide
 have n41:¬(4:Int)=1:=by decide
 have n42:¬(4:Int)=2:=by decide
 have n43:¬(4:Int)=3:=by decide
 rcases hw with rfl|rfl|rfl|rfl|rfl <;> simp_arith [k_7,k_1,evs,Sl.any,e_9,n10,n20,n21,n30,n31,n32,n40,n41,n42,n43,l0,l1,l2,l3,l4]
end
theorem bn_9(z n:Int):h_1 [.int z, .int n]= .ok (.sh (.bl (decide (0≤z∧z < n)))):=by
 by_cases h:0≤z
 ·simp_arith [h_1,w_5,evs,t_7,y_5,ak_6,h,true_and]
 ·simp_arith [h_1,w_5,evs,t_7,y_5,ak_6,h,false_and]
theorem ab_3(n s:Int){z:Int}(h:0 < z):0≤z_7 n s z:=by unfold z_7;exact Int.emod_nonneg _ (by omega)
theorem az_5(n s:Int){z:Int}(h:0 < z):z_7 n s z < z:=by unfold z_7;exact Int.emod_lt_of_pos _ h
def pA(d:D)(s p:Int):Nat:=(z_7 (g_1 d) (4 * s + 0) p).toNat
def pB(d:D)(s p:Int):Nat:=(p + z_7 (g_1 d) (4 * s + 1) p).toNat
theorem w_9(d:D)(s:Int){p:Int}(h:0 < p):r_3 d s 2 p=zi [pA d s p,pB d s p]:=by
 have a0:=ab_3 (g_1 d) (4 * s + 0) h;have b0:=ab_3 (g_1 d) (4 * s + 1) h;show [D.int (u_2 d s p (0 + ((0:Nat):Int))),D.int (u_2 d s p (0 + ((1:Nat):Int)))]= [D.int ((pA d s p:Nat):Int),D.int ((pB d s p:Nat):Int)];have e1:u_2 d s p (0 + ((0:Nat):Int))=((pA d s p:Nat):Int):=by
  unfold u_2 pA;rw [show(0:Int) + ((0:Nat):Int)=0 from rfl];omega
 have e2:u_2 d s p (0 + ((1:Nat):Int))=((pB d s p:Nat):Int):=by
  unfold u_2 pB;rw [show(0:Int) + ((1:Nat):Int)=1 from rfl];omega
 rw [e1,e2]
theorem ca_3(d:D)(s:Int){p:Int}(h:0 < p):(pA d s p:Int) < p:=by
 have a0:=ab_3 (g_1 d) (4 * s + 0) h;have a1:=az_5 (g_1 d) (4 * s + 0) h;unfold pA;omega
theorem ca_4(d:D)(s:Int){p:Int}(h:0 < p):(pB d s p:Int) < 2 * p∧p≤(pB d s p:Int):=by
 have a0:=ab_3 (g_1 d) (4 * s + 1) h;have a1:=az_5 (g_1 d) (4 * s + 1) h;unfold pB;omega
structure Szs(p s m:Int)(T:List Int):Prop where
 p0:0 < p
 p1:p≤8
 s0:0≤s
 s1:s≤1003000000000
 m0:2≤m
 m1:m≤1000000001
 tl:(T.length:Int)=2 * p
section
variable{p s m:Int}{T:List Int}{kds:List (Key×D)}{d:D}(z:Szs p s m T)
include z
theorem cq_5(h:d_4 d):c_6 [e_5 p s m T kds,d]= .ok (.sh (.int (ca_2 T [pA d s p,pB d s p] % m))):=by
 have a:=ca_3 d s z.p0;have b:=ca_4 d s z.p0;have tl:=z.tl;have e1:j_2 ["Living"] "listed" (eVar 0) [some (e_5 p s m T kds),some d]= .ok (.sh (.lst (T.map .int))):=fld rfl rfl;have e3:j_2 ["Living"] "modulus" (eVar 0) [some (e_5 p s m T kds),some d]= .ok (.sh (.int m)):=fld rfl rfl;have hp:=ab_2 (m:=m) (T:=T) (kds:=kds) h z.s0 z.s1 z.p0 (by have:=z.p1;omega);rw [w_9 d s z.p0] at hp;have e2:c_7 "places" 1 [("Living",b_1)] (eVar 0) (aCons (eVar 1) aNil) [some (e_5 p s m T kds),some d]= .ok (.sh (.tup (zi [pA d s p,pB d s p]))):=(met1 (w:= .sh d) rfl rfl (by decide +kernel)).trans hp;have hs:=cg_6 T [pA d s p,pB d s p] m (by have:=z.m0;omega) (fun q hq=>by
  have:q=pA d s p∨q=pB d s p:=by simpa using hq
  omega) (by simp)
 simp_arith [c_6,s_2,evs,e1,e2,e3,hs]
theorem da_5(h:d_4 d){v:Int}(hv:v < 0∨m≤v):c_3 (a_7 p s m T kds) [d, .int v]= .ex q_1 (a_7 p s m T kds):=by
 have hp:=ab_2 (m:=m) (T:=T) (kds:=kds) h z.s0 z.s1 z.p0 (by have:=z.p1;omega);have e2:c_7 "places" 1 [("Living",b_1)] (eVar 0) (aCons (eVar 1) aNil) [some (e_5 p s m T kds),some d,some (.int v),none,none,none]= .ok (.sh (.tup (r_3 d s 2 p))):=(met1 (w:= .sh d) rfl rfl (by decide +kernel)).trans hp;have pl:u_0 (.sh (.tup (r_3 d s 2 p)))=true:=by rw [w_9 d s z.p0];rfl
 have e3:j_2 ["Living"] "modulus" (eVar 0) [some (e_5 p s m T kds),some d,some (.int v),some (.tup (r_3 d s 2 p)),none,none]= .ok (.sh (.int m)):=fld rfl rfl;have nb:¬(0≤v∧v < m):=by omega
 unfold c_3 m_3 r_2;rw [show n_8 6 (a_7 p s m T kds) [d, .int v]= [.lt (a_7 p s m T kds), .sh d, .sh (.int v), .no, .no, .no] from rfl];have q1:l_9 3 (j_6 [0] (c_7 "places" 1 [("Living",b_1)] (eVar 0) (aCons (eVar 1) aNil))) [.lt (a_7 p s m T kds), .sh d, .sh (.int v), .no, .no, .no]= .nx [.lt (a_7 p s m T kds), .sh d, .sh (.int v), .sh (.tup (r_3 d s 2 p)), .no, .no]:=by
  unfold l_9;rw [w_7 e2 pl];rfl
 rw [b_4 q1];unfold sSeq;have q2:sIf [0,2] (tNotF (eTruth (eFn 2 h_1 (aCons (eVar 2) (aCons (j_2 ["Living"] "modulus" (eVar 0)) aNil))))) (t_9 "NoValue" "at" [] (eC (.int 0))) sNil [.lt (a_7 p s m T kds), .sh d, .sh (.int v), .sh (.tup (r_3 d s 2 p)), .no, .no]= .ex q_1 [.lt (a_7 p s m T kds), .sh d, .sh (.int v), .sh (.tup (r_3 d s 2 p)), .no, .no]:=by
  simp_arith [evs,Sl.any,w_6,e3,bn_9,nb,tNotF,t_9,decide_false]
  rfl
 rw [q2]
theorem cg_7(h:d_4 d){v:Int}(hv:v < 0∨m≤v):d_3 (a_7 p s m T kds) [.int 4,d, .int v]= .ok (askR q_1) (a_7 p s m T kds):=by
 refine as_9 (.inr (.inl rfl)) ?_;have l4:d_5 [2,3] (m_0 0 2 "put" "Living" c_3 (a_8 (eVar 2) (a_8 (eVar 3) h_0))) [.lt (a_7 p s m T kds), .sh (.int 4), .sh d, .sh (.int v), .sh .non, .no]= .ex q_1 [.lt (a_7 p s m T kds), .sh (.int 4), .sh d, .sh (.int v), .sh .non, .no]:=by
  have:=t_5 (p:=p) (s:=s) (m:=m) (T:=T) (kds:=kds) (M:=c_3) (ga:=a_8 (eVar 2) (a_8 (eVar 3) h_0)) (Δ:= [.sh (.int 4), .sh d, .sh (.int v), .sh .non, .no]) (ds:= [d, .int v]) (mn:= "put") (by decide +kernel) rfl rfl;rw [da_5 z h hv] at this;exact this
 generalize a_7 p s m T kds=t at l4⊢;have n40:¬(4:Int)=0:=by decide
 have n41:¬(4:Int)=1:=by decide
 have n42:¬(4:Int)=2:=by decide
 have n43:¬(4:Int)=3:=by decide
 simp_arith [k_7,k_1,evs,Sl.any,e_9,n40,n41,n42,n43,l4]
end
theorem bt_5:∀kds:List (Key×D),unS (kds.map fun p=>(p.1,Tn.sh p.2))=some kds
 | []=>rfl
 |(k,d)::kds=>by
  have:=bt_5 kds;simp only [List.map_cons,unS,this,Option.map_some]
section
variable{p s m:Int}{T:List Int}{kds ar:List (Key×D)}{d:D}
theorem at_0:(["Living"]:List Str).contains ("Living" :Str)=true:=by decide +kernel
theorem dd_0:(lN.zip [Tn.sh (.int p), .sh (.int s), .sh (.int m), .sh (.lst (T.map .int)),Tn.of (.dic kds)]).lookup ("by_key" :Str)=some (Tn.dic (kds.map fun p=>(p.1,Tn.sh p.2))):=rfl
theorem cq_6:repF lN [Tn.sh (.int p), .sh (.int s), .sh (.int m), .sh (.lst (T.map .int)),Tn.of (.dic kds)] "by_key" (Tn.of (.dic ar))= [Tn.sh (.int p), .sh (.int s), .sh (.int m), .sh (.lst (T.map .int)),Tn.of (.dic ar)]:=rfl
theorem dk_4{T':List Int}:repF lN [Tn.sh (.int p), .sh (.int s), .sh (.int m), .sh (.lst (T.map .int)),Tn.of (.dic kds)] "listed" (.sh (.lst (T'.map .int)))= [Tn.sh (.int p), .sh (.int s), .sh (.int m), .sh (.lst (T'.map .int)),Tn.of (.dic kds)]:=rfl
theorem fpop{Δ:SE}{fk:FE}{k:Key}{w:W}(hk:fk (none::vsh Δ)= .ok w)(hw:q_4 w.d=some k)(hh:(f_0 kds k).isSome=true):bm_3 0 ["Living"] "by_key" fk (.lt (a_7 p s m T kds)::Δ)= .nx (.lt (a_7 p s m T (n_2 kds k))::Δ):=by
 have hb:((Sl.lt (a_7 p s m T kds)::Δ)[0]?).bind Sl.tree=some (a_7 p s m T kds,true):=rfl;have hv:vsh (Sl.lt (a_7 p s m T kds)::Δ)=none::vsh Δ:=rfl;unfold bm_3;rw [hb,hv];unfold a_7;simp only [at_0,dd_0,bt_5,hk,hw,hh,if_true,cq_6];rfl
theorem fput{Δ:SE}{fk fe:FE}{k:Key}{w v:W}(hk:fk (none::vsh Δ)= .ok w)(hw:q_4 w.d=some k)(he:fe (none::vsh Δ)= .ok v)(hl:kds.length < 16777216):ay_9 0 ["Living"] "by_key" fk fe (.lt (a_7 p s m T kds)::Δ)= .nx (.lt (a_7 p s m T (o_2 kds k v.d))::Δ):=by
 have hb:((Sl.lt (a_7 p s m T kds)::Δ)[0]?).bind Sl.tree=some (a_7 p s m T kds,true):=rfl;have hv:vsh (Sl.lt (a_7 p s m T kds)::Δ)=none::vsh Δ:=rfl;unfold ay_9;rw [hb,hv];unfold a_7;simp only [at_0,dd_0,bt_5,hk,hw,he,hl,if_true,cq_6];rfl
end
section
variable{p s m:Int}{T:List Int}{kds:List (Key×D)}{d v:D}
theorem az_6(h:d_4 d)(g1 g2:FS):sIf [0,1] (eTest (eOp (inK true) (eVar 1) (j_2 ["Living"] "by_key" (eVar 0)))) g1 g2 [.lt (a_7 p s m T kds), .sh d]=if m_8 kds (kOf d)=true then g2 [.lt (a_7 p s m T kds), .sh d] else g1 [.lt (a_7 p s m T kds), .sh d]:=by
 have e1:j_2 ["Living"] "by_key" (eVar 0) [some (e_5 p s m T kds),some d]= .ok (.sh (.dic kds)):=fld rfl rfl;have hk:=v_5 h;cases hh:m_8 kds (kOf d) with
 |true=>simp_arith [evs,Sl.any,w_6,e1,inK,hk,hh,if_true,Bool.not_true]
 |false=>simp_arith [evs,Sl.any,w_6,e1,inK,hk,hh,if_true,Bool.not_false]
theorem u_6(h:d_4 d):sExpr [1] (eFn 1 i_8 (aCons (eVar 1) aNil)) [.lt (a_7 p s m T kds), .sh d]= .nx [.lt (a_7 p s m T kds), .sh d]:=by
 simp_arith [evs,Sl.any,as_7 h]
theorem cq_7(h:d_4 d)(hh:m_8 kds (kOf d)=true):b_8 (a_7 p s m T kds) [d]= .ok .non (a_7 p s m T (n_2 kds (kOf d))):=by
 unfold b_8 m_3 p_2;rw [show n_8 2 (a_7 p s m T kds) [d]= [.lt (a_7 p s m T kds), .sh d] from rfl,b_4 (u_6 h)];have q2:=az_6 (p:=p) (s:=s) (m:=m) (T:=T) (kds:=kds) h (w_1 "NoSuch") sNil;rw [hh,if_pos rfl] at q2;rw [b_4 (Δ':= [.lt (a_7 p s m T kds), .sh d]) q2,fpop (k:=kOf d) (w:= .sh d) rfl (v_5 h) hh]
theorem cg_8(h:d_4 d)(hh:m_8 kds (kOf d)=false):b_8 (a_7 p s m T kds) [d]= .ex w_8 (a_7 p s m T kds):=by
 unfold b_8 m_3 p_2;rw [show n_8 2 (a_7 p s m T kds) [d]= [.lt (a_7 p s m T kds), .sh d] from rfl,b_4 (u_6 h)];have q2:=az_6 (p:=p) (s:=s) (m:=m) (T:=T) (kds:=kds) h (w_1 "NoSuch") sNil;rw [hh,if_neg Bool.false_ne_true] at q2;unfold sSeq;rw [q2];rfl
theorem bt_6(h:d_4 d)(hh:m_8 kds (kOf d)=false):d_3 (a_7 p s m T kds) [.int 3,d,v]= .ok (askR w_8) (a_7 p s m T kds):=by
 refine as_9 (.inr (.inr rfl)) ?_;have l3:d_5 [2] (m_0 0 1 "drop" "Living" b_8 (a_8 (eVar 2) h_0)) [.lt (a_7 p s m T kds), .sh (.int 3), .sh d, .sh v, .sh .non, .no]= .ex w_8 [.lt (a_7 p s m T kds), .sh (.int 3), .sh d, .sh v, .sh .non, .no]:=by
  have:=t_5 (p:=p) (s:=s) (m:=m) (T:=T) (kds:=kds) (M:=b_8) (ga:=a_8 (eVar 2) h_0) (Δ:= [.sh (.int 3), .sh d, .sh v, .sh .non, .no]) (ds:= [d]) (mn:= "drop") (by decide +kernel) rfl rfl;rw [cg_8 h hh] at this;exact this
 generalize a_7 p s m T kds=t at l3⊢;have n30:¬(3:Int)=0:=by decide
 have n31:¬(3:Int)=1:=by decide
 have n32:¬(3:Int)=2:=by decide
 simp_arith [k_7,k_1,evs,Sl.any,e_9,n30,n31,n32,l3]
end
theorem da_6:∀c∈sgL,∀d∈sgL,sgI c=sgI d→c=d:=by decide +kernel
theorem ab_4(l:List Nat)(c:Nat):j_5 (l ++ [c])=40 * j_5 l + (sgI c:Int) + 1:=by
 unfold j_5;rw [List.foldl_append];rfl
theorem ae_4(l:List Nat):l= []∨∃k c,l=k ++ [c]:=by
 by_cases h:l= []
 ·exact .inl h
 ·exact .inr ⟨l.dropLast,l.getLast h,(List.dropLast_concat_getLast h).symm⟩
theorem cg_9:∀(n:Nat) (l k:List Nat),l.length=n→(∀c∈l,c∈sgL)→(∀c∈k,c∈sgL)→j_5 l=j_5 k→l=k:=by
 intro n
 induction n with
 |zero=>
  intro l k hl hc hk e;have:l= []:=List.length_eq_zero_iff.mp hl;subst this;rcases ae_4 k with rfl|⟨k',d,rfl⟩
  ·rfl
  ·have hd:=bt_2 d (hk d (by simp));rw [ab_4] at e;have e0:j_5 []=0:=rfl;rw [e0] at e;omega
 |succ n ih=>
  intro l k hl hc hk e;rcases ae_4 l with rfl|⟨l',c,rfl⟩
  ·simp at hl
  ·have hcl:=bt_2 c (hc c (by simp));rcases ae_4 k with rfl|⟨k',d,rfl⟩
   ·rw [ab_4] at e;have e0:j_5 []=0:=rfl;rw [e0] at e;omega
   ·have hdl:=bt_2 d (hk d (by simp));rw [ab_4,ab_4] at e;have e1:sgI c=sgI d:=by omega
    have e2:j_5 l'=j_5 k':=by omega
    have e3:=da_6 c (hc c (by simp)) d (hk d (by simp)) e1;have e4:=ih l' k' (by simpa using hl) (fun x hx=>hc x (by simp [hx])) (fun x hx=>hk x (by simp [hx])) e2;rw [e3,e4]
theorem ch_0{a b:D}(ha:d_4 a)(hb:d_4 b)(e:g_1 a=g_1 b):a=b:=by
 rcases ha with⟨n,rfl,_⟩|⟨l,rfl,_,hc⟩ <;> rcases hb with⟨m,rfl,_⟩|⟨k,rfl,_,hk⟩
 ·have e:2 * n=2 * m:=e;rw [show n=m by omega]
 ·have e:2 * n=2 * j_5 (mkS k).cps.toList + 1:=e;omega
 ·have e:2 * j_5 (mkS l).cps.toList + 1=2 * m:=e;omega
 ·have e:2 * j_5 (mkS l).cps.toList + 1=2 * j_5 (mkS k).cps.toList + 1:=e;rw [i_0,i_0] at e;rw [cg_9 l.length l k rfl hc hk (by omega)]
theorem dk_5{d:D}(h:d_4 d):kD (kOf d)=d:=by rcases h with⟨n,rfl,_⟩|⟨l,rfl,_⟩ <;> rfl
structure KOk(kds:List (Key×D))(ks:List D):Prop where
 key:∀k∈ks,d_4 k
 nd:ks.Nodup
 eq:kds.map (·.1)=ks.map kOf
 val:∀q∈kds,∃n:Int,q.2= .int n
 len:ks.length≤40
section
variable{kds:List (Key×D)}{ks:List D}
theorem KOk.ds(h:KOk kds ks):(kds.map fun p=>kD p.1)=ks:=by
 rw [show(kds.map fun p=>kD p.1)=(kds.map (·.1)).map kD by rw [List.map_map];rfl,h.eq,List.map_map];have:∀{l:List D},(∀k∈l,d_4 k)→l.map (kD ∘ kOf)=l:=fun{l}=>by
  induction l with
  |nil=>intro _;rfl
  |cons a l ih=>intro hl;rw [List.map_cons,ih fun k hk=>hl k (.tail _ hk)];show kD (kOf a)::l=_;rw [dk_5 (hl a (.head _))]
 exact this h.key
theorem KOk.length(h:KOk kds ks):kds.length=ks.length:=by
 have:=congrArg List.length h.eq
 rwa [List.length_map,List.length_map] at this
theorem ah_4:∀{l:List D},(∀k∈l,d_4 k)→w_3 i_8 l= .ok (l.map fun d=>(g_1 d,d))
 | [],_=>rfl
 |d::l,h=>by
  unfold w_3;rw [as_7 (h d (.head _))];simp only [R.bind_ok,W.d_sh,ah_4 fun k hk=>h k (.tail _ hk)];rfl
theorem az_7{α β:Type}{f:α→β}:∀{l:List α},(∀x∈l,∀y∈l,f x=f y→x=y)→l.Nodup→(l.map f).Nodup
 | [],_,_=> .nil
 |a::l,inj,nd=>by
  rw [List.nodup_cons] at nd;rw [List.map_cons,List.nodup_cons];refine⟨fun hm=> ?_,az_7 (fun x hx y hy=>inj x (.tail _ hx) y (.tail _ hy)) nd.2⟩;obtain⟨b,hb,e⟩:=List.mem_map.mp hm;exact nd.1 (inj b (.tail _ hb) a (.head _) e▸hb)
def x_0(ks:List D):List D:=(ar_8 (ks.map fun d=>(g_1 d,d))).map (·.2)
theorem r_5(ks:List D):(x_0 ks).Perm ks:=by
 have h:=(ae_1 (ks.map fun d=>(g_1 d,d))).map (·.2);rw [List.map_map] at h;have e:(ks.map ((fun x:Int×D=>x.2) ∘ fun d=>(g_1 d,d)))=ks:=by
  rw [show((fun x:Int×D=>x.2) ∘ fun d=>(g_1 d,d))=id from rfl,List.map_id]
 rw [e] at h;exact h
theorem cq_8(h:KOk kds ks):ar_9 i_8 (kds.map fun p=>kD p.1)= .ok (.ow (.lst (x_0 ks))):=by
 unfold ar_9;rw [h.ds,ah_4 h.key];have nd:((ks.map fun d=>(g_1 d,d)).map (·.1)).Nodup:=by
  rw [List.map_map];exact az_7 (fun x hx y hy e=>ch_0 (h.key x hx) (h.key y hy) e) h.nd
 have hl:=h.len;simp only [List.length_map,show ks.length < 64 by omega,nd,and_self,if_true];rfl
theorem bg_1:∀{kds:List (Key×D)} {k:Key},k∈kds.map (·.1)→∃v,f_0 kds k=some v∧(k,v)∈kds
 | [],_,h=>by cases h
 |(a,v)::r,k,h=>by
  unfold f_0
  by_cases e:a=k
  ·subst e;exact⟨v,by rw [List.find?_cons_of_pos (by simp)];rfl, .head _⟩
  ·rw [List.map_cons,List.mem_cons] at h;rcases h with h|h
   ·exact absurd h.symm e
   ·obtain⟨w,e1,e2⟩:=bg_1 h;unfold f_0 at e1;exact⟨w,by rw [List.find?_cons_of_neg (by simpa using e)];exact e1, .tail _ e2⟩
theorem KOk.get(h:KOk kds ks){d:D}(hd:d∈ks):∃n:Int,f_0 kds (kOf d)=some (.int n):=by
 obtain⟨v,e,hm⟩:=bg_1 (kds:=kds) (k:=kOf d) (by rw [h.eq];exact List.mem_map_of_mem hd);obtain⟨n,en⟩:=h.val _ hm;exact⟨n,by rw [e];exact congrArg some en⟩
end
def al_5(kds:List (Key×D))(ks:List D):List D:=(x_0 ks).map fun d=> .tup [d,(f_0 kds (kOf d)).getD .non]
section
variable{p s m:Int}{T:List Int}{kds:List (Key×D)}{ks:List D}{d:D}
theorem ca_5(h:KOk kds ks):c_0 [e_5 p s m T kds]= .ok (.ow (.lst (al_5 kds ks))):=by
 have mem:∀d,d∈x_0 ks→d∈ks:=fun d hd=>(r_5 ks).mem_iff.mp hd;have e1:j_2 ["Living"] "by_key" (eVar 0) [some (e_5 p s m T kds)]= .ok (.sh (.dic kds)):=fld rfl rfl;have es:iOf (as_0 i_8 (j_2 ["Living"] "by_key" (eVar 0))) [some (e_5 p s m T kds)]= .ok (x_0 ks):=by
  unfold iOf as_0;rw [e1];simp only [R.bind_ok,W.d_sh,cq_8 h,W.d_ow];rfl
 have hl:(x_0 ks).length≤16777216:=by
  rw [(r_5 ks).length_eq];have:=h.len;omega
 have hc:=v_0 (fg:=gC 1) (p:=fun _=> .ok true) (f:=m_6) (δ:= [some (e_5 p s m T kds),none]) (fun _=>true) (fun d=> .tup [d,(f_0 kds (kOf d)).getD .non]) (x_0 ks) fun d hd=>by
  obtain⟨n,en⟩:=h.get (mem d hd);have hk:=v_5 (h.key d (mem d hd));refine⟨[some (e_5 p s m T kds),some d],rfl,rfl,fun _=>⟨.sh (.tup [d, .int n]), ?_,by rw [en];rfl⟩⟩;have e2:j_2 ["Living"] "by_key" (eVar 0) [some (e_5 p s m T kds),some d]= .ok (.sh (.dic kds)):=fld rfl rfl
  simp_arith [m_6,evs,e2,getK,hk,en]
 rw [List.filter_eq_self.mpr fun _ _=>rfl] at hc;have ec:=u_9 (m:=1) (fi:=iOf (as_0 i_8 (j_2 ["Living"] "by_key" (eVar 0)))) (fg:=gC 1) (p:=fun _=> .ok true) (f:=m_6) (δ:= [some (e_5 p s m T kds)]) es hl hc
 simp_arith [c_0,ad_2,evs,ec]
 rfl
theorem ab_5(h:d_4 d):c_9 d=true:=by rcases h with⟨n,rfl,_⟩|⟨l,rfl,_⟩ <;> rfl
theorem cq_9:∀c∈sgL,c < 0x110000:=by decide +kernel
theorem dk_6(n:Nat)(h:d_4 d):okD n d=true:=by
 rcases h with⟨i,rfl,_⟩|⟨l,rfl,_,hc⟩
 ·cases n <;> rfl
 ·have:(mkS l).cps.all (· < 0x110000)=true:=by
   rw [Array.all_eq_true_iff_forall_mem];intro c hm;have:c∈l:=by simpa [mkS] using hm
   simpa using cq_9 c (hc c this)
  cases n <;> exact this
theorem az_8(h:KOk kds ks):∀x∈al_5 kds ks,c_9 x=true∧okD 1 x=true:=fun x hx=>by
 obtain⟨d,hd,rfl⟩:=List.mem_map.mp hx;have hm:=(r_5 ks).mem_iff.mp hd;obtain⟨n,en⟩:=h.get hm;have hk:=h.key d hm;rw [en];refine⟨?_, ?_⟩
 ·simp only [Option.getD_some,c_9,f_1,ab_5 hk,Bool.and_self]
 ·simp only [Option.getD_some,okD,List.all_cons,List.all_nil,dk_6 0 hk,Bool.and_self]
theorem ae_5:∀{l:List D},(∀x∈l,c_9 x=true)→f_1 l=true
 | [],_=>by simp only [f_1]
 |d::l,h=>by simp only [f_1,h d (.head _),ae_5 fun x hx=>h x (.tail _ hx),Bool.and_self]
theorem cr_0(h:KOk kds ks):(al_5 kds ks).length=kds.length:=by
 unfold al_5;rw [List.length_map,(r_5 ks).length_eq,h.length]
def i_5(T:List Int)(kds:List (Key×D))(ks:List D):D:= .lst [.lst (T.map .int), .lst (al_5 kds ks)]
theorem da_7(h:KOk kds ks):eqD (i_5 T kds ks) (i_5 T kds ks)= .ok (.sh (.bl true)):=by
 refine bn_4 3 ?_;have h2:(al_5 kds ks).all (okD 1)=true:=List.all_eq_true.mpr fun x hx=>(az_8 h x hx).2;have h1:(T.map D.int).all (okD 1)=true:=List.all_eq_true.mpr fun x hx=>by obtain⟨i,_,rfl⟩:=List.mem_map.mp hx;rfl
 simp only [i_5,okD,List.all_cons,List.all_nil,h1,h2,Bool.and_self]
theorem s_3:∀T:List Int,f_1 (T.map .int)=true
 | []=>by simp only [List.map_nil,f_1]
 |i::T=>by simp only [List.map_cons,f_1,c_9,s_3 T,Bool.and_self]
theorem bt_7(h:KOk kds ks):c_9 (i_5 T kds ks)=true:=by
 simp only [i_5,c_9,f_1,s_3,ae_5 fun x hx=>(az_8 h x hx).1,Bool.and_self]
end
section
variable{p s m:Int}{T:List Int}{kds:List (Key×D)}{ks:List D}{d:D}
theorem cr_1{n:Nat}{M:Tn→List D→RR}{ga:SE→R (List D)}{Δ:SE}{ds:List D}(hg:ga (.lt (a_7 p s m T kds)::Δ)= .ok ds)(hl:ds.length=n):k_2 0 n M ga (.lt (a_7 p s m T kds)::Δ)=goR 0 true (.lt (a_7 p s m T kds)::Δ) (M (a_7 p s m T kds) ds):=by
 have hb:((Sl.lt (a_7 p s m T kds)::Δ)[0]?).bind Sl.tree=some (a_7 p s m T kds,true):=rfl;unfold k_2;rw [hb];unfold a_7 at hg⊢;simp only [hg,hl,if_true]
theorem ae_6:∀{ds:List D},f_1 ds=true→k_9 (ds.map .sh)=true
 | [],_=>by simp only [List.map_nil,k_9]
 |d::ds,h=>by
  simp only [f_1,Bool.and_eq_true] at h;simp only [List.map_cons,k_9,f_2,h.1,ae_6 h.2,Bool.and_self]
theorem cr_2{ds:List D}(h:f_1 ds=true):u_0 (.ow (.lst ds))=true:=by
 show f_2 (.lst (ds.map .sh))=true;simp only [f_2,ae_6 h]
theorem ca_6(h:KOk kds ks)(tl:T.length≤1000)(δ:DE):eLst (aCons (c_7 "table" 0 [("Living",c_4)] (eVar 0) aNil) (aCons (c_7 "kept" 0 [("Living",c_0)] (eVar 0) aNil) aNil)) (some (e_5 p s m T kds)::δ)= .ok (.ow (i_5 T kds ks)):=by
 have e1:c_7 "table" 0 [("Living",c_4)] (eVar 0) aNil (some (e_5 p s m T kds)::δ)= .ok (.ow (.lst (T.map .int))):=(met0 rfl (by decide +kernel)).trans (cq_2 tl);have e2:c_7 "kept" 0 [("Living",c_0)] (eVar 0) aNil (some (e_5 p s m T kds)::δ)= .ok (.ow (.lst (al_5 kds ks))):=(met0 rfl (by decide +kernel)).trans (ca_5 h);simp only [eLst,aCons,aNil,e1,e2,R.bind_ok,W.d_ow];rfl
theorem ch_1(h:KOk kds ks)(tl:T.length≤1000)(Δ:SE):j_6 [0] (eLst (aCons (c_7 "table" 0 [("Living",c_4)] (eVar 0) aNil) (aCons (c_7 "kept" 0 [("Living",c_0)] (eVar 0) aNil) aNil))) (.lt (a_7 p s m T kds)::Δ)= .ok (i_5 T kds ks) (.lt (a_7 p s m T kds)::Δ):=
 w_7 (w:= .ow (i_5 T kds ks)) (ca_6 h tl _) (cr_2 (by have:=bt_7 (T:=T) h;simpa only [i_5,c_9] using this))
theorem ch_2(h:KOk kds ks)(tl:T.length≤1000){δ:DE}{i:Nat}(hi:(some (e_5 p s m T kds)::δ)[i]? =some (some (i_5 T kds ks))):eOp eqD (eLst (aCons (c_7 "table" 0 [("Living",c_4)] (eVar 0) aNil) (aCons (c_7 "kept" 0 [("Living",c_0)] (eVar 0) aNil) aNil))) (eVar i) (some (e_5 p s m T kds)::δ)= .ok (.sh (.bl true)):=by
 have ev:eVar i (some (e_5 p s m T kds)::δ)= .ok (.sh (i_5 T kds ks)):=by unfold eVar;rw [hi]
 unfold eOp;rw [ca_6 h tl,R.bind_ok,ev,R.bind_ok];exact da_7 h
theorem da_8{x:D}(h:okD 3 x=true)(hs:∀y,x≠ .str y):neD x x= .ok (.sh (.bl false)):=by
 have e:=bn_4 3 h;cases x with
 |str y=>exact absurd rfl (hs y)
 |_=>
  unfold eqD at e;unfold neD;simp only at e⊢
  split at e
  ·rename_i hc;rw [if_pos hc];injection e with e
   injection e with e
   injection e with e
   rw [e];rfl
  ·cases e
theorem dk_7(x:Xn)(hx:x=h_2 0∨x=q_1∨x=w_8):neD (askR x) (askR x)= .ok (.sh (.bl false)):=by
 refine da_8 ?_ (fun y z=>by unfold askR at z;cases z);rcases hx with rfl|rfl|rfl <;> decide +kernel
end
section
variable{p s m:Int}{T:List Int}{kds:List (Key×D)}{ks:List D}{d:D}
theorem z_8{f:FE}{ga:SE→R (List D)}{Δ:SE}{w:W}{ds:List D}(h:f (vsh Δ)= .ok w)(hg:ga Δ= .ok ds):a_8 f ga Δ= .ok (w.d::ds):=by
 unfold a_8;simp only [h,hg]
theorem bt_8{x:Xn}(hx:x=h_2 0∨x=q_1∨x=w_8){ga:SE→R (List D)}{js:List Nat}{Δ:SE}{ds:List D}{f:FE}{g:FS}(hj:gsome js (.lt (a_7 p s m T kds)::Δ)= .lt (a_7 p s m T kds)::Δ)(hg:ga (.lt (a_7 p s m T kds)::Δ)= .ok ds)(hl:ds.length=3)(ha:d_3 (a_7 p s m T kds) ds= .ok (askR x) (a_7 p s m T kds))(hf:f (none::vsh Δ)= .ok (.ow (askR x))):
  sIfM (mOp neD (d_5 js (k_2 0 3 d_3 ga)) (h_6 [] f)) g sNil (.lt (a_7 p s m T kds)::Δ)= .nx (.lt (a_7 p s m T kds)::Δ):=by
 have h1:d_5 js (k_2 0 3 d_3 ga) (.lt (a_7 p s m T kds)::Δ)= .ok (askR x) (.lt (a_7 p s m T kds)::Δ):=by
  unfold d_5;rw [hj,cr_1 hg hl,ha];rfl
 have h2:h_6 [] f (.lt (a_7 p s m T kds)::Δ)= .ok (askR x) (.lt (a_7 p s m T kds)::Δ):=by
  unfold h_6;rw [show vsh (gsome [] (.lt (a_7 p s m T kds)::Δ))=none::vsh Δ from rfl,hf];rfl
 unfold sIfM mOp;simp only [h1,h2,dk_7 x hx,W.d_sh];rfl
theorem da_9(z:Szs p s m T)(h:KOk kds ks)(c:Int):e_6 (a_7 p s m T kds) [.dic kds, .int c, .tup [.int p, .int s, .int m]]= .ok (.bl true) (a_7 p s m T kds):=by
 have tl:T.length≤1000:=by have:=z.tl;have:=z.p1;omega
 have em:=u_1 (c % 2147483647) 3 (by decide) (by decide);have z0:=bf_6 (c % 2147483647) 3;have z1:=bf_7 (c % 2147483647) 3;generalize mixZ (c % 2147483647) 3=e at em z0 z1;have m0:=z.m0;have m1:=z.m1;have ix2:atI [D.int p,D.int s,D.int m] 2=some (.int m):=rfl;obtain⟨bv,eb,_⟩:=ah_1 e m (by omega) m1;obtain⟨dv,hdv,ev⟩:=ah_0 (ds:= [.int (e % m), .int bv]) (i:=e / 4 % 2) (Int.emod_nonneg _ (by decide)) (Int.emod_lt_of_pos _ (by decide));obtain⟨nk,hnk,enk⟩:=cg_5 (mixZ e 4);have em4:=u_1 e 4 (by decide) (by decide);have em5:=u_1 e 5 (by decide) (by decide);have em6:=u_1 e 6 (by decide) (by decide);obtain⟨kd,hkd,ekd⟩:=cp_7 (mixZ e 5);obtain⟨b6,eb6,hb6⟩:=ah_1 (mixZ e 6) m (by omega) m1
 let t:=a_7 p s m T kds
 let sz:D:= .tup [.int p, .int s, .int m]
 have q1:l_9 4 (j_6 [0] (eLst (aCons (c_7 "table" 0 [("Living",c_4)] (eVar 0) aNil) (aCons (c_7 "kept" 0 [("Living",c_0)] (eVar 0) aNil) aNil)))) [.lt t, .sh (.dic kds), .sh (.int c), .sh sz, .no, .no, .no, .no]= .nx [.lt t, .sh (.dic kds), .sh (.int c), .sh sz, .sh (i_5 T kds ks), .no, .no, .no]:=by
  unfold l_9;rw [ch_1 h tl];rfl
 have q2:sSet 5 [2] (eFn 2 c_8 (aCons (eOp d_6 (eVar 2) (eC (.int 2147483647))) (aCons (eC (.int 3)) aNil))) [.lt t, .sh (.dic kds), .sh (.int c), .sh sz, .sh (i_5 T kds ks), .no, .no, .no]= .nx [.lt t, .sh (.dic kds), .sh (.int c), .sh sz, .sh (i_5 T kds ks), .sh (.int e), .no, .no]:=by
  simp_arith [evs,Sl.pub,c_2 (show(0:Int) < 2147483647 by decide),em]
 have hix:ixD sz (.int 2)= .ok (.sh (.int m)):=rfl;have q3:sSet 6 [3,5] (eOp ixD (eLst (aCons (eOp d_6 (eVar 5) (eOp ixD (eVar 3) (eC (.int 2)))) (aCons (eFn 2 e_2 (aCons (eVar 5) (aCons (eOp ixD (eVar 3) (eC (.int 2))) aNil))) aNil))) (eOp d_6 (eOp n_4 (eVar 5) (eC (.int 4))) (eC (.int 2)))) [.lt t, .sh (.dic kds), .sh (.int c), .sh sz, .sh (i_5 T kds ks), .sh (.int e), .no, .no]= .nx [.lt t, .sh (.dic kds), .sh (.int c), .sh sz, .sh (i_5 T kds ks), .sh (.int e), .sh dv, .no]:=by
  simp_arith [evs,Sl.pub,hix,c_2 (show(0:Int) < m by omega),eb,m_9 (i:=e) (show(0:Int) < 4 by decide) (by decide),c_2 (show(0:Int) < 2 by decide),n_6 ev]
 have w0:=Int.emod_nonneg e (show(5:Int)≠0 by decide);have w1:=Int.emod_lt_of_pos e (show(0:Int) < 5 by decide);have q4:=bt_8 (p:=p) (s:=s) (m:=m) (T:=T) (kds:=kds) (x:=h_2 0) (.inl rfl) (js:= [5,6]) (Δ:= [.sh (.dic kds), .sh (.int c), .sh sz, .sh (i_5 T kds ks), .sh (.int e), .sh dv, .no]) (ds:= [.int (e % 5),nk,dv]) (f:=eLst (aCons (eC (.str "key")) (aCons (eC (.int 0)) (aCons (eC (.bl true)) aNil)))) (g:=l_6 (h_6 [] (eC (.bl false))))
  (ga:=a_8 (eOp d_6 (eVar 5) (eC (.int 5))) (a_8 (eFn 1 f_5 (aCons (eFn 2 c_8 (aCons (eVar 5) (aCons (eC (.int 4)) aNil))) aNil)) (a_8 (eVar 6) h_0))) rfl (by
   have g1:eOp d_6 (eVar 5) (eC (.int 5)) [none,some (.dic kds),some (.int c),some sz,some (i_5 T kds ks),some (.int e),some dv,none]= .ok (.sh (.int (e % 5))):=by simp_arith [evs,c_2 (show(0:Int) < 5 by decide)]
   have g2:eFn 1 f_5 (aCons (eFn 2 c_8 (aCons (eVar 5) (aCons (eC (.int 4)) aNil))) aNil) [none,some (.dic kds),some (.int c),some sz,some (i_5 T kds ks),some (.int e),some dv,none]= .ok (.sh nk):=by simp_arith [evs,em4,enk]
   have g3:a_8 (eVar 6) h_0 [.lt (a_7 p s m T kds), .sh (.dic kds), .sh (.int c), .sh sz, .sh (i_5 T kds ks), .sh (.int e), .sh dv, .no]= .ok [dv]:=rfl;have g4:=z_8 (Δ:= [.lt (a_7 p s m T kds), .sh (.dic kds), .sh (.int c), .sh sz, .sh (i_5 T kds ks), .sh (.int e), .sh dv, .no]) g2 g3;exact z_8 (Δ:= [.lt (a_7 p s m T kds), .sh (.dic kds), .sh (.int c), .sh sz, .sh (i_5 T kds ks), .sh (.int e), .sh dv, .no]) g1 g4) rfl (cq_4 hnk w0 w1) rfl
 have q5:sSet 7 [5] (eFn 1 j_3 (aCons (eFn 2 c_8 (aCons (eVar 5) (aCons (eC (.int 5)) aNil))) aNil)) [.lt t, .sh (.dic kds), .sh (.int c), .sh sz, .sh (i_5 T kds ks), .sh (.int e), .sh dv, .no]= .nx [.lt t, .sh (.dic kds), .sh (.int c), .sh sz, .sh (i_5 T kds ks), .sh (.int e), .sh dv, .sh kd]:=by
  simp_arith [evs,Sl.pub,em5,ekd]
 have q6:∃k',d_4 k'∧sIf [1,5] (tAndF (eTest (eOp ag_5 (eVar 1) u_7)) (eTest (eOp eqD (eOp d_6 (eOp n_4 (eVar 5) (eC (.int 8))) (eC (.int 2))) (eC (.int 0)))))
   (sSet 7 [1,5] (eOp ixD (eKL (eVar 1)) (eOp d_6 (eOp n_4 (eVar 5) (eC (.int 16))) (eCall u_8 (aCons (eVar 1) aNil)))))
   sNil [.lt t, .sh (.dic kds), .sh (.int c), .sh sz, .sh (i_5 T kds ks), .sh (.int e), .sh dv, .sh kd]= .nx [.lt t, .sh (.dic kds), .sh (.int c), .sh sz, .sh (i_5 T kds ks), .sh (.int e), .sh dv, .sh k']:=by
  have ht:∀b:Bool,tAndF (eTest (eOp ag_5 (eVar 1) u_7)) (eTest (eOp eqD (eOp d_6 (eOp n_4 (eVar 5) (eC (.int 8))) (eC (.int 2))) (eC (.int 0)))) [some t.d,some (.dic kds),some (.int c),some sz,some (i_5 T kds ks),some (.int e),some dv,some kd]= .ok (!kds.isEmpty && decide (e / 8 % 2=0)):=fun _=>by
   have h1:ag_5 (.dic kds) (.dic [])= .ok (.sh (.bl (!kds.isEmpty))):=rfl
   simp_arith [tAndF,eTest,eOp,eVar,eC,u_7,evs,h1,m_9 (i:=e) (show(0:Int) < 8 by decide) (by decide),c_2 (show(0:Int) < 2 by decide),e_9]
   cases kds.isEmpty <;> rfl
  by_cases hc:(!kds.isEmpty && decide (e / 8 % 2=0))=true
  ·have hne:0 < kds.length:=by
    cases kds with
    |nil=>simp at hc
    |cons a b=>simp
   have zk:=h.length;obtain⟨k',hm,ek⟩:=ah_0 (ds:=ks) (i:=e / 16 % (kds.length:Int)) (Int.emod_nonneg _ (by omega)) (by have:=Int.emod_lt_of_pos (e / 16) (show(0:Int) < (kds.length:Int) by omega);omega);refine⟨k',h.key k' hm, ?_⟩;unfold sIf;rw [show vall [.lt t, .sh (.dic kds), .sh (.int c), .sh sz, .sh (i_5 T kds ks), .sh (.int e), .sh dv, .sh kd]= [some t.d,some (.dic kds),some (.int c),some sz,some (i_5 T kds ks),some (.int e),some dv,some kd] from rfl,ht true,hc];simp only [if_true];have hkl:eKL (eVar 1) [none,some (.dic kds),some (.int c),some sz,some (i_5 T kds ks),some (.int e),some dv,some kd]= .ok (.ow (.lst ks)):=by
    show R.ok (W.ow (.lst (kds.map fun p=>kD p.1)))=_;rw [h.ds]
   simp_arith [evs,Sl.pub,hkl,u_8,m_9 (i:=e) (show(0:Int) < 16 by decide) (by decide),c_2 (show(0:Int) < (kds.length:Int) by omega),n_6 ek]
  ·refine⟨kd,hkd, ?_⟩;unfold sIf;rw [show vall [.lt t, .sh (.dic kds), .sh (.int c), .sh sz, .sh (i_5 T kds ks), .sh (.int e), .sh dv, .sh kd]= [some t.d,some (.dic kds),some (.int c),some sz,some (i_5 T kds ks),some (.int e),some dv,some kd] from rfl,ht true];simp only [hc,Bool.false_eq_true,if_false];rfl
 obtain⟨k',hk',q6⟩:=q6;have q7:=bt_8 (p:=p) (s:=s) (m:=m) (T:=T) (kds:=kds) (x:=q_1) (.inr (.inl rfl)) (js:= [3,5,7]) (Δ:= [.sh (.dic kds), .sh (.int c), .sh sz, .sh (i_5 T kds ks), .sh (.int e), .sh dv, .sh k']) (ds:= [.int 4,k', .int b6]) (f:=eLst (aCons (eC (.str "value")) (aCons (eC (.int 0)) (aCons (eC (.bl true)) aNil)))) (g:=l_6 (h_6 [] (eC (.bl false))))
  (ga:=a_8 (eC (.int 4)) (a_8 (eVar 7) (a_8 (eFn 2 e_2 (aCons (eFn 2 c_8 (aCons (eVar 5) (aCons (eC (.int 6)) aNil))) (aCons (eOp ixD (eVar 3) (eC (.int 2))) aNil))) h_0))) rfl (by
   have g1:eFn 2 e_2 (aCons (eFn 2 c_8 (aCons (eVar 5) (aCons (eC (.int 6)) aNil))) (aCons (eOp ixD (eVar 3) (eC (.int 2))) aNil)) [none,some (.dic kds),some (.int c),some sz,some (i_5 T kds ks),some (.int e),some dv,some k']= .ok (.sh (.int b6)):=by simp_arith [evs,em6,hix,eb6]
   have g2:=z_8 (ga:=h_0) (ds:= []) (Δ:= [.lt (a_7 p s m T kds), .sh (.dic kds), .sh (.int c), .sh sz, .sh (i_5 T kds ks), .sh (.int e), .sh dv, .sh k']) g1 rfl;have g3:eVar 7 (vsh [.lt (a_7 p s m T kds), .sh (.dic kds), .sh (.int c), .sh sz, .sh (i_5 T kds ks), .sh (.int e), .sh dv, .sh k'])= .ok (.sh k'):=rfl;have g4:eC (.int 4) (vsh [.lt (a_7 p s m T kds), .sh (.dic kds), .sh (.int c), .sh sz, .sh (i_5 T kds ks), .sh (.int e), .sh dv, .sh k'])= .ok (.sh (.int 4)):=rfl;exact z_8 g4 (z_8 g3 g2)) rfl (cg_7 z hk' hb6) rfl
 have q8:sIfM (mAnd (eTest (eOp (inK true) (eVar 7) (eVar 1))) (mOp neD (d_5 [7] (k_2 0 3 d_3 (a_8 (eC (.int 3)) (a_8 (eVar 7) (a_8 (eC (.int 0)) h_0))))) (h_6 [] (eLst (aCons (eC (.str "such")) (aCons (eC (.int 0)) (aCons (eC (.bl true)) aNil))))))) (l_6 (h_6 [] (eC (.bl false)))) sNil [.lt (a_7 p s m T kds), .sh (.dic kds), .sh (.int c), .sh sz, .sh (i_5 T kds ks), .sh (.int e), .sh dv, .sh k']= .nx [.lt (a_7 p s m T kds), .sh (.dic kds), .sh (.int c), .sh sz, .sh (i_5 T kds ks), .sh (.int e), .sh dv, .sh k']:=by
  have hkk:=v_5 hk';have ht:eTest (eOp (inK true) (eVar 7) (eVar 1)) (vall [.lt (a_7 p s m T kds), .sh (.dic kds), .sh (.int c), .sh sz, .sh (i_5 T kds ks), .sh (.int e), .sh dv, .sh k'])= .ok (!m_8 kds (kOf k')):=by
   simp_arith [evs,Sl.any,inK,hkk,if_true]
  cases hh:m_8 kds (kOf k') with
  |true=>
   rw [hh] at ht;unfold sIfM mAnd;rw [ht];rfl
  |false=>
   rw [hh] at ht;have q:=bt_8 (p:=p) (s:=s) (m:=m) (T:=T) (kds:=kds) (x:=w_8) (.inr (.inr rfl)) (js:= [7]) (Δ:= [.sh (.dic kds), .sh (.int c), .sh sz, .sh (i_5 T kds ks), .sh (.int e), .sh dv, .sh k']) (ds:= [.int 3,k', .int 0]) (f:=eLst (aCons (eC (.str "such")) (aCons (eC (.int 0)) (aCons (eC (.bl true)) aNil)))) (g:=l_6 (h_6 [] (eC (.bl false))))
    (ga:=a_8 (eC (.int 3)) (a_8 (eVar 7) (a_8 (eC (.int 0)) h_0))) rfl rfl rfl (bt_6 hk' hh) rfl
   unfold sIfM at q⊢;unfold mAnd;rw [ht];exact q
 have q9:l_6 (j_6 [0] (eOp eqD (eLst (aCons (c_7 "table" 0 [("Living",c_4)] (eVar 0) aNil) (aCons (c_7 "kept" 0 [("Living",c_0)] (eVar 0) aNil) aNil))) (eVar 4))) [.lt (a_7 p s m T kds), .sh (.dic kds), .sh (.int c), .sh sz, .sh (i_5 T kds ks), .sh (.int e), .sh dv, .sh k']= .rv (.bl true) [.lt (a_7 p s m T kds), .sh (.dic kds), .sh (.int c), .sh sz, .sh (i_5 T kds ks), .sh (.int e), .sh dv, .sh k']:=by
  unfold l_6;rw [w_7 (w:= .sh (.bl true)) (ch_2 h tl rfl) rfl];rfl
 unfold e_6 m_3 ad_3;rw [show n_8 8 (a_7 p s m T kds) [.dic kds, .int c, .tup [.int p, .int s, .int m]]= [.lt t, .sh (.dic kds), .sh (.int c), .sh sz, .no, .no, .no, .no] from rfl,b_4 q1,b_4 q2,b_4 q3,b_4 q4,b_4 q5,b_4 q6,b_4 q7,b_4 q8,q9]
end
theorem ao_2{ns:List Str}{ts:List Tn}{f:Str}{js:List Nat}{fe:FE}{Δ:SE}{w:W}(hj:gsome js (.lt (.obj "Living" ns ts)::Δ)= .lt (.obj "Living" ns ts)::Δ)(h1:ns.contains f=false)(h2:ns.length < 1000)(hf:fe (none::vsh Δ)= .ok w):ak_5 0 ["Living"] f js fe (.lt (.obj "Living" ns ts)::Δ)= .nx (.lt (.obj "Living" (ns ++ [f]) (ts ++ [.sh w.d]))::Δ):=by
 unfold ak_5;rw [hj,show vsh (.lt (.obj "Living" ns ts)::Δ)=none::vsh Δ from rfl,hf];simp only [List.getElem?_cons_zero,at_0,h1,h2,and_self,if_true,List.set_cons_zero]
theorem db_0{p s m:Int}(p0:0 < p)(p1:p≤8):v_4 [.int p, .int s, .int m]= .ok (lN, [.sh (.int p), .sh (.int s), .sh (.int m), .sh (.lst ((List.replicate (2 * p).toNat (0:Int)).map .int)),Tn.of (.dic [])]):=by
 have mm:mulC 2 p=true:=r_9 (by decide) (by decide);have de:repD [D.int 0] (.int (2 * p))= .ok (.ow (.lst ((List.replicate (2 * p).toNat (0:Int)).map .int))):=by
  unfold repD;simp only;rw [if_pos ⟨by omega,by simp;omega⟩];have:∀n:Nat,(List.replicate n [D.int 0]).flatten=(List.replicate n (0:Int)).map .int:=fun n=>by
   induction n with
   |zero=>rfl
   |succ n ih=>rw [List.replicate_succ,List.flatten_cons,ih];rfl
  rw [this]
 have hr:eRep (aCons (eC (.int 0)) aNil) (eOp s_7 (eC (.int 2)) (eVar 1)) [none,some (.int p),some (.int s),some (.int m)]= .ok (.ow (.lst ((List.replicate (2 * p).toNat (0:Int)).map .int))):=by
  simp_arith [eRep,evs,l_3 mm,de]
 have a1:=ao_2 (ns:= []) (ts:= []) (f:= "part") (js:= [1]) (fe:=eVar 1) (Δ:= [.sh (.int p), .sh (.int s), .sh (.int m)]) (w:= .sh (.int p)) rfl rfl (by decide) rfl;have a2:=ao_2 (ns:= ["part"]) (ts:= [.sh (.int p)]) (f:= "by_salt") (js:= [2]) (fe:=eVar 2) (Δ:= [.sh (.int p), .sh (.int s), .sh (.int m)]) (w:= .sh (.int s)) rfl (by decide +kernel) (by decide) rfl;have a3:=ao_2 (ns:= ["part", "by_salt"]) (ts:= [.sh (.int p), .sh (.int s)]) (f:= "modulus") (js:= [3]) (fe:=eVar 3) (Δ:= [.sh (.int p), .sh (.int s), .sh (.int m)]) (w:= .sh (.int m)) rfl (by decide +kernel) (by decide) rfl;have a4:=ao_2 (ns:= ["part", "by_salt", "modulus"]) (ts:= [.sh (.int p), .sh (.int s), .sh (.int m)]) (f:= "listed") (js:= [1]) (Δ:= [.sh (.int p), .sh (.int s), .sh (.int m)]) rfl (by decide +kernel) (by decide) hr;have a5:bm_5 0 ["Living"] "by_key" u_7 [.lt (.obj "Living" ["part", "by_salt", "modulus", "listed"] [.sh (.int p), .sh (.int s), .sh (.int m), .sh (.lst ((List.replicate (2 * p).toNat (0:Int)).map .int))]), .sh (.int p), .sh (.int s), .sh (.int m)]= .nx [.lt (.obj "Living" lN [.sh (.int p), .sh (.int s), .sh (.int m), .sh (.lst ((List.replicate (2 * p).toNat (0:Int)).map .int)),Tn.of (.dic [])]), .sh (.int p), .sh (.int s), .sh (.int m)]:=by
  have h1:(["part", "by_salt", "modulus", "listed"]:List Str).contains ("by_key" :Str)=false:=by decide +kernel
  unfold bm_5;simp only [List.getElem?_cons_zero,at_0,h1,List.length_cons,List.length_nil];rfl
 unfold v_4 z_1 t_3;rw [show ar_0 4 "Living" [.int p, .int s, .int m]= [.lt (.obj "Living" [] []), .sh (.int p), .sh (.int s), .sh (.int m)] from rfl,b_4 a1];simp only [List.nil_append,W.d_sh];rw [b_4 a2];simp only [List.cons_append,List.nil_append,W.d_sh];rw [b_4 a3];simp only [List.cons_append,List.nil_append,W.d_sh];rw [b_4 a4];simp only [List.cons_append,List.nil_append,W.d_ow];rw [a5];simp only [if_true]
section
variable{α:Type}
theorem bo_0(k:Key):f_0 ([]:List (Key×α)) k=none:=rfl
theorem g_8(x:Key)(v:α)(l:List (Key×α))(k:Key):f_0 ((x,v)::l) k=if x=k then some v else f_0 l k:=by
 unfold f_0;rw [List.find?_cons]
 by_cases h:x=k
 ·rw [if_pos h,decide_eq_true h];rfl
 ·rw [if_neg h,decide_eq_false h]
theorem cr_3(l r:List (Key×α))(k:Key):f_0 (l ++ r) k=(f_0 l k).or (f_0 r k):=by
 induction l with
 |nil=>rfl
 |cons q l ih=>
  obtain⟨x,v⟩:=q;rw [List.cons_append,g_8,g_8,ih]
  split <;> rfl
theorem bo_1(v:α)(k k':Key):∀l:List (Key×α),f_0 (repA l k v) k'=if k'=k then(f_0 l k).map (fun _=>v) else f_0 l k'
 | []=>by unfold repA;simp [bo_0]
 |(x,u)::l=>by
  unfold repA
  by_cases h:x=k
  ·rw [if_pos h,g_8,g_8,if_pos h]
   by_cases h':k'=k
   ·rw [if_pos h',if_pos (h.trans h'.symm)];rfl
   ·rw [if_neg h',if_neg (fun e=>h' (e.symm.trans h)),g_8,if_neg (fun e=>h' (e.symm.trans h))]
  ·rw [if_neg h,g_8,bo_1 v k k' l,g_8,if_neg h]
   by_cases h':k'=k
   ·rw [if_pos h',if_pos h',if_neg (fun e=>h (e.trans h'))]
   ·rw [if_neg h',if_neg h',g_8]
theorem az_9{l:List (Key×α)}{k:Key}{v:α}(h:f_0 l k=some v):(k,v)∈l:=by
 induction l with
 |nil=>cases h
 |cons q l ih=>
  obtain⟨x,u⟩:=q;rw [g_8] at h
  split at h
  ·rename_i e;cases h;subst e;exact List.mem_cons_self
  ·exact List.mem_cons_of_mem _ (ih h)
theorem ca_7{v:α}{k:Key}{q:Key×α}:∀{l:List (Key×α)},q∈repA l k v→q∈l∨q.2=v
 | [],h=>by unfold repA at h;cases h
 |(x,u)::l,h=>by
  unfold repA at h
  split at h
  ·rcases List.mem_cons.mp h with e|e
   ·subst e;exact .inr rfl
   ·exact .inl (List.mem_cons_of_mem _ e)
  ·rcases List.mem_cons.mp h with e|e
   ·subst e;exact .inl List.mem_cons_self
   ·rcases ca_7 e with e|e
    ·exact .inl (List.mem_cons_of_mem _ e)
    ·exact .inr e
theorem db_1(v:α)(k:Key)(l:List (Key×α)):(repA l k v).length=l.length:=by
 have:=congrArg List.length (ai_4 l k v);simpa using this
end
theorem ca_8(k:Key):∀zm:List (Key×Tn),f_0 (Tn.ks zm) k=(f_0 zm k).map Tn.d
 | []=>rfl
 |(x,t)::zm=>by
  unfold Tn.ks;rw [g_8,g_8,ca_8 k zm]
  split <;> rfl
abbrev Nb:=List (D×Nat)
def nbT(l:Nb):List D:=l.map fun x=> .tup [x.1, .int (x.2:Int)]
abbrev Ed:=D×Nat×Nat
def nbr(E:List Ed)(q:Nat):Nb:=E.flatMap fun e=>(if e.2.1=q then [(e.1,e.2.2)] else []) ++ (if e.2.2=q then [(e.1,e.2.1)] else [])
def edD(e:Ed):D:= .tup [e.1, .tup [.int (e.2.1:Int), .int (e.2.2:Int)]]
structure WK(zm:List (Key×Tn))(N:Nat→Nb):Prop where
 at_:∀q:Nat,(f_0 zm (.inl (q:Int))).getD (.lst [])= .lst ((nbT (N q)).map .sh)
 li:∀q∈zm,∃l:Nb,q.2= .lst ((nbT l).map .sh)∧∀x∈l,d_4 x.1
theorem WK.plain{zm:List (Key×Tn)}{N:Nat→Nb}(h:WK zm N):f_2 (.dic zm)=true:=by
 have:∀l:Nb,(∀x∈l,d_4 x.1)→k_9 ((nbT l).map .sh)=true:=fun l hl=>ae_6 (ae_5 fun x hx=>by
  obtain⟨y,hy,rfl⟩:=List.mem_map.mp hx;have:=ab_5 (hl y hy);simp only [c_9,f_1,this,Bool.and_self])
 have all:∀ks:List (Key×Tn),(∀q∈ks,q∈zm)→o_9 ks=true:=by
  intro ks
  induction ks with
  |nil=>intro _;rfl
  |cons q ks ih=>
   intro hq;obtain⟨x,t⟩:=q;obtain⟨l,e,hl⟩:=h.li _ (hq _ List.mem_cons_self);simp only at e;subst e;unfold o_9 f_2;rw [this l hl,ih fun q hq'=>hq q (List.mem_cons_of_mem _ hq')];rfl
 unfold f_2;exact all zm fun _ h=>h
def addN(N:Nat→Nb)(a:Nat)(k:D)(b:Nat):Nat→Nb:=fun q=>if q=a then N q ++ [(k,b)] else N q
theorem ca_9(zm:List (Key×Tn))(k k':Key):f_0 (sdK zm k) k'=if k'=k then some ((f_0 zm k).getD (.lst [])) else f_0 zm k':=by
 unfold sdK;cases h:f_0 zm k with
 |some v=>
  by_cases e:k'=k
  ·rw [if_pos e,e];exact h
  ·rw [if_neg e]
 |none=>
  simp only;rw [cr_3,g_8,bo_0]
  by_cases e:k'=k
  ·rw [if_pos e,e,h,if_pos rfl];rfl
  ·rw [if_neg e,if_neg (fun z=>e z.symm)];cases f_0 zm k' <;> rfl
theorem cr_4{i:Nat}{f1 f2:FE}{Δ:SE}{zm:List (Key×Tn)}{N:Nat→Nb}{a b:Nat}{k:D}(w:WK zm N)(hk:d_4 k)(ht:(Δ[i]?).bind Sl.tree=some (.dic zm,false))(h1:f1 (vall Δ)= .ok (.sh (.int (a:Int))))(h2:f2 (vsh Δ)= .ok (.sh (.tup [k, .int (b:Int)])))(hl:zm.length < 10000)(hn:(N a).length < 10000):
  ∃kts',sSdb i f1 f2 Δ= .nx (Δ.set i (.tr (.dic kts')))∧WK kts' (addN N a k b)∧kts'.length≤zm.length + 1:=by
 have hv:=ca_9 zm (.inl (a:Int)) (.inl (a:Int));rw [if_pos rfl,w.at_ a] at hv;refine⟨repA (sdK zm (.inl (a:Int))) (.inl (a:Int)) (.lst ((nbT (N a)).map .sh ++ [.sh (.tup [k, .int (b:Int)])])), ?_,⟨fun q=> ?_,fun q hq=> ?_⟩, ?_⟩
 ·unfold sSdb;rw [ht];simp only [h1,W.d_sh,q_4];rw [if_pos (by omega),hv];simp only;rw [if_pos (by simp [nbT];omega),h2];rfl
 ·rw [bo_1,hv];unfold addN
  by_cases e:q=a
  ·subst e;rw [if_pos rfl,if_pos rfl];simp only [Option.map_some,Option.getD_some,nbT,List.map_append];rfl
  ·have e':(Sum.inl (q:Int):Key)≠ .inl (a:Int):=fun z=>e (by injection z with z;omega);rw [if_neg e',if_neg e,ca_9,if_neg e'];exact w.at_ q
 ·have hsd:∀q∈sdK zm (.inl (a:Int)),∃l:Nb,q.2= .lst ((nbT l).map .sh)∧∀x∈l,d_4 x.1:=fun q hq=>by
   unfold sdK at hq
   split at hq
   ·exact w.li q hq
   ·rcases List.mem_append.mp hq with h|h
    ·exact w.li q h
    ·rw [List.mem_singleton.mp h];exact⟨[],rfl,fun _ h=>by cases h⟩
  rcases ca_7 hq with h|h
  ·exact hsd q h
  ·obtain⟨l,e,hl'⟩:=hsd _ (az_9 hv);refine⟨l ++ [(k,b)], ?_,fun x hx=> ?_⟩
   ·rw [h];simp only at e;injection e with e
    rw [e];simp only [nbT,List.map_append];rfl
   ·rcases List.mem_append.mp hx with h|h
    ·exact hl' x h
    ·rw [List.mem_singleton.mp h];exact hk
 ·rw [db_1];unfold sdK
  split
  ·omega
  ·simp
theorem dk_8{a b:D}(ha:d_4 a)(hb:d_4 b):neD a b= .ok (.sh (.bl (!decide (kOf a=kOf b)))):=by
 have hc:eqC a b=true:=by unfold eqC;rw [(bg_0 ha).1,(bg_0 hb).1,(bg_0 ha).2];rfl
 have he:eqvD a b=decide (kOf a=kOf b):=by
  have q:=cz_9 ha hb
  by_cases e:a=b
  ·rw [show eqvD a b=true from q.mpr e,e];simp
  ·have:eqvD a b=false:=by
    cases h:eqvD a b with
    |false=>rfl
    |true=>exact absurd (q.mp h) e
   rw [this,decide_eq_false fun z=>e (ca_1 ha hb z)]
 rcases ha with⟨n,rfl,_⟩|⟨l,rfl,_⟩ <;> rcases hb with⟨n',rfl,_⟩|⟨l',rfl,_⟩
 ·show(if eqC (.int n) (.int n')=true then R.ok (W.sh (.bl (!eqvD (.int n) (.int n')))) else .no)=_;rw [if_pos hc,he]
 ·show(if eqC (.int n) (.str (mkS l'))=true then R.ok (W.sh (.bl (!eqvD (.int n) (.str (mkS l'))))) else .no)=_;rw [if_pos hc,he]
 ·show(if eqC (.str (mkS l)) (.int n')=true then R.ok (W.sh (.bl (!eqvD (.str (mkS l)) (.int n')))) else .no)=_;rw [if_pos hc,he]
 ·rw [by_0]
  by_cases e:mkS l=mkS l'
  ·rw [e];simp
  ·rw [decide_eq_false e,decide_eq_false fun z=>e (by injection z)]
def WD(wk:List (Key×D))(N:Nat→Nb):Prop:=∀q:Nat,(f_0 wk (.inl (q:Int))).getD (.lst [])= .lst (nbT (N q))
theorem WK.d{zm:List (Key×Tn)}{N:Nat→Nb}(h:WK zm N):WD (Tn.ks zm) N:=fun q=>by
 have:=h.at_ q;rw [ca_8];cases e:f_0 zm (.inl (q:Int)) with
 |some t=>
  rw [e] at this;simp only [Option.getD_some] at this;rw [this];simp only [Option.map_some,Option.getD_some,Tn.d,Tn.ds_sh]
 |none=>
  rw [e] at this;simp only [Option.getD_none] at this;injection this with this
  have:nbT (N q)= []:=List.map_eq_nil_iff.mp this.symm;rw [this];rfl
theorem cr_5{E:List Ed}{i:Nat}{e:Ed}(h:E[i]? =some e):nbr (E.take (i + 1))=fun q=>nbr (E.take i) q ++ ((if e.2.1=q then [(e.1,e.2.2)] else []) ++ (if e.2.2=q then [(e.1,e.2.1)] else [])):=by
 funext q
 unfold nbr;rw [List.take_add_one,h,List.flatMap_append];simp
theorem cb_0(E:List Ed)(q:Nat):(nbr E q).length≤2 * E.length:=by
 induction E with
 |nil=>simp [nbr]
 |cons e E ih=>
  unfold nbr at ih⊢;rw [List.flatMap_cons,List.length_append,List.length_append,List.length_cons];have a1:(if e.2.1=q then [(e.1,e.2.2)] else []).length≤1:=by split <;> simp
  have a2:(if e.2.2=q then [(e.1,e.2.1)] else []).length≤1:=by split <;> simp
  omega
theorem bt_9(E:List Ed)(hl:E.length≤100)(hk:∀e∈E,d_4 e.1∧e.2.1≠e.2.2):∃w wk,ab_1 [.lst (E.map edD)]= .ok w∧u_0 w=true∧w.d= .dic wk∧WD wk (nbr E):=by
 let I:Nat→SE→Prop:=fun i Δ=>∃(sl a2 a3:Sl) (zm:List (Key×Tn)),Δ= [.sh (.lst (E.map edD)),sl,a2,a3]∧((sl= .ow (.dic [])∧zm= [])∨sl= .tr (.dic zm))∧WK zm (nbr (E.take i))∧zm.length≤2 * i
 obtain⟨Δ',e,sl,a2,a3,zm,rfl,hs,hw,_⟩:=aa_7 (gV2 2 3) al_2 I (ds:=E.map edD) (Δ:= [.sh (.lst (E.map edD)), .ow (.dic []), .no, .no])
  ⟨_,_,_, [],rfl, .inl ⟨rfl,rfl⟩,⟨fun q=>rfl,fun q h=>by cases h⟩,Nat.le_refl _⟩
  (fun i d Δ hd ⟨sl,a2,a3,zm,e,hs,hw,hn⟩=>by
   subst e;rw [List.getElem?_map] at hd;cases he:E[i]? with
   |none=>rw [he] at hd;cases hd
   |some ed=>
    rw [he] at hd;cases hd;obtain⟨k,a,b⟩:=ed;obtain⟨hkk,hab⟩:=hk _ (List.mem_of_getElem? he);simp only at hkk hab;have hi:i < E.length:=(List.getElem?_eq_some_iff.mp he).1;have tr:sl.tree=some (.dic zm,false):=by
     rcases hs with⟨rfl,rfl⟩|rfl <;> rfl
    have nl:∀q,(nbr (E.take i) q).length≤200:=fun q=>by
     have:=cb_0 (E.take i) q;rw [List.length_take] at this;omega
    have ia0:ixD (.tup [.int (a:Int), .int (b:Int)]) (.int 0)= .ok (.sh (.int (a:Int))):=rfl;have ia1:ixD (.tup [.int (a:Int), .int (b:Int)]) (.int 1)= .ok (.sh (.int (b:Int))):=rfl;obtain⟨k1,g1,w1,l1⟩:=cr_4 (i:=1) (Δ:= [.sh (.lst (E.map edD)),sl, .sh k, .sh (.tup [.int (a:Int), .int (b:Int)])]) (f1:=eOp ixD (eVar 3) (eC (.int 0))) (f2:=eTup (aCons (eVar 2) (aCons (eOp ixD (eVar 3) (eC (.int 1))) aNil))) (a:=a) (b:=b) (k:=k) hw hkk (by simpa using tr)
     (by simp_arith [evs,ia0,vall,List.map_cons,Sl.any]) (by simp_arith [evs,ia1,vsh,List.map_cons,Sl.pub]) (by omega) (by have:=nl a;omega)
    obtain⟨k2,g2,w2,l2⟩:=cr_4 (i:=1) (Δ:= [.sh (.lst (E.map edD)), .tr (.dic k1), .sh k, .sh (.tup [.int (a:Int), .int (b:Int)])]) (f1:=eOp ixD (eVar 3) (eC (.int 1))) (f2:=eTup (aCons (eVar 2) (aCons (eOp ixD (eVar 3) (eC (.int 0))) aNil))) (a:=b) (b:=a) (k:=k) w1 hkk rfl
     (by simp_arith [evs,ia1,vall,List.map_cons,Sl.any]) (by simp_arith [evs,ia0,vsh,List.map_cons,Sl.pub]) (by omega) (by
      have:=nl b;unfold addN
      split
      ·rw [List.length_append];simp only [List.length_cons,List.length_nil];omega
      ·omega)
    refine⟨_,rfl,_, .inl ((b_4 g1).trans g2),_,_,_,k2,rfl, .inr rfl, ?_,by omega⟩;rw [cr_5 he];have:addN (addN (nbr (E.take i)) a k b) b k a=fun q=>nbr (E.take i) q ++ ((if a=q then [(k,b)] else []) ++ (if b=q then [(k,a)] else [])):=by
     funext q
     unfold addN
     by_cases h1:a=q
     ·subst h1;rw [if_neg hab,if_pos rfl,if_pos rfl,if_neg fun z=>hab z.symm,List.append_nil]
     ·by_cases h2:b=q
      ·subst h2;rw [if_pos rfl,if_neg (fun z=>hab z.symm),if_neg hab,if_pos rfl];rfl
      ·rw [if_neg fun z=>h2 z.symm,if_neg fun z=>h1 z.symm,if_neg h1,if_neg h2,List.append_nil,List.append_nil]
    rw [←this];exact w2)
 rw [List.length_map,List.take_length] at hw;have q:aj_5 (start3 4 [.lst (E.map edD)])=sRetV 1 [.sh (.lst (E.map edD)),sl,a2,a3]:=by
  unfold aj_5;rw [show start3 4 [D.lst (E.map edD)]= [.sh (.lst (E.map edD)), .no, .no, .no] from rfl];refine(b_4 (Δ':= [.sh (.lst (E.map edD)), .ow (.dic []), .no, .no]) rfl).trans ?_;refine b_4 ?_;exact e
 rcases hs with⟨rfl,rfl⟩|rfl
 ·exact⟨.ow (.dic []), [],ag_3 q,rfl,rfl,hw.d⟩
 ·exact⟨.tr (.dic zm),Tn.ks zm,ag_3 q,hw.plain,rfl,hw.d⟩
section
variable{p s m:Int}{T:List Int}{kds:List (Key×D)}{ks:List D}{d:D}
def l_0(ks:List D)(d:D)(s p:Int):List Ed:=(ks.filter fun x=> !decide (kOf x=kOf d)).map fun x=>(x,pA x s p,pB x s p)
theorem bu_0(z:Szs p s m T)(h:KOk kds ks)(hd:d_4 d):∃w wk,b_2 [e_5 p s m T kds,d]= .ok w∧u_0 w=true∧w.d= .dic wk∧WD wk (nbr (l_0 ks d s p)):=by
 have zk:=h.len;obtain⟨w,wk,e,pw,dw,hw⟩:=bt_9 (l_0 ks d s p) (by unfold l_0;rw [List.length_map];exact Nat.le_trans (List.length_filter_le _ _) (by omega)) (fun x hx=>by
  obtain⟨y,hy,rfl⟩:=List.mem_map.mp hx;have a:=ca_3 y s z.p0;have b:=ca_4 y s z.p0;exact⟨h.key y ((List.mem_filter.mp hy).1),by simp only;omega⟩)
 refine⟨w,wk, ?_,pw,dw,hw⟩;have ec:=v_0 (fg:=gC 2) (p:=f_8) (f:=f_7) (δ:= [some (e_5 p s m T kds),some d,none]) (fun x=> !decide (kOf x=kOf d)) (fun x=>edD (x,pA x s p,pB x s p)) ks (fun x hx=>by
  refine⟨[some (e_5 p s m T kds),some d,some x],rfl, ?_,fun _=> ?_⟩
  ·simp_arith [f_8,evs,dk_8 (h.key x hx) hd]
  ·have hp:=ab_2 (m:=m) (T:=T) (kds:=kds) (h.key x hx) z.s0 z.s1 z.p0 (by have:=z.p1;omega);rw [w_9 x s z.p0] at hp;have e2:c_7 "places" 1 [("Living",b_1)] (eVar 0) (aCons (eVar 2) aNil) [some (e_5 p s m T kds),some d,some x]= .ok (.sh (.tup (zi [pA x s p,pB x s p]))):=(met1 (w:= .sh x) rfl rfl (by decide +kernel)).trans hp;exact⟨.sh (.tup [x, .tup (zi [pA x s p,pB x s p])]),by simp_arith [f_7,evs,e2],rfl⟩)
 have ei:y_7 (j_2 ["Living"] "by_key" (eVar 0)) [some (e_5 p s m T kds),some d]= .ok ks:=by
  have e1:j_2 ["Living"] "by_key" (eVar 0) [some (e_5 p s m T kds),some d]= .ok (.sh (.dic kds)):=fld rfl rfl;unfold y_7;rw [e1];show R.ok (kds.map fun p=>kD p.1)=_;rw [h.ds]
 have e3:=u_9 (m:=1) (fg:=gC 2) (p:=f_8) (f:=f_7) ei (by omega) ec;have ee:((ks.filter fun x=> !decide (kOf x=kOf d)).map fun x=>edD (x,pA x s p,pB x s p))=(l_0 ks d s p).map edD:=by
  unfold l_0;rw [List.map_map];rfl
 rw [ee] at e3
 simp_arith [b_2,o_3,evs,e3,e]
end
theorem bu_1:∀(M:Nat) (l:List Nat),l.Nodup→(∀x∈l,x < M)→l.length≤M
 |0,l,_,h=>by
  cases l with
  |nil=>exact Nat.le_refl _
  |cons a l=>exact absurd (h a List.mem_cons_self) (Nat.not_lt_zero _)
 |M + 1,l,nd,h=>by
  have h1:=bu_1 M (l.erase M) (nd.erase M) fun x hx=>by
   have:=nd.mem_erase_iff.mp hx;have:=h x this.2;omega
  have h2:=List.length_erase (a:=M) (l:=l)
  split at h2 <;> omega
abbrev Bs:=List (Nat×Option (D×Nat))
def bV:Option (D×Nat)→D
 |none=> .non
 |some (k,q)=> .tup [k, .int (q:Int)]
def bD(B:Bs):List (Key×D):=B.map fun e=>(.inl (e.1:Int),bV e.2)
abbrev bK(B:Bs):List Nat:=B.map (·.1)
theorem ba_0{α:Type}(x:Key)(v:α)(l:List (Key×α))(k:Key):m_8 ((x,v)::l) k=(decide (x=k) || m_8 l k):=by
 unfold m_8;rw [g_8]
 by_cases h:x=k
 ·rw [if_pos h,decide_eq_true h];rfl
 ·rw [if_neg h,decide_eq_false h];rfl
theorem bu_2(B:Bs)(o:Nat):m_8 (bD B) (.inl (o:Int))=decide (o∈bK B):=by
 induction B with
 |nil=>rfl
 |cons e B ih=>
  show m_8 ((.inl (e.1:Int),bV e.2)::bD B) _=_;rw [ba_0,ih];have:(Sum.inl (e.1:Int):Key)= .inl (o:Int)↔o=e.1:=⟨fun z=>by injection z with z;omega,fun z=>by rw [z]⟩;rw [decide_eq_decide.mpr this];rw [←Bool.decide_or];exact decide_eq_decide.mpr List.mem_cons.symm
theorem cb_1{α:Type}(l:List (Key×α))(k:Key):(l.any fun kv=>decide (kv.1=k))=m_8 l k:=by
 induction l with
 |nil=>rfl
 |cons q l ih=>
  obtain⟨x,v⟩:=q;rw [ba_0,List.any_cons,ih]
theorem bo_2{α:Type}{l:List (Key×α)}{k:Key}{v:α}(h:m_8 l k=false):o_2 l k v=l ++ [(k,v)]:=by
 unfold o_2;rw [cb_1,h,if_neg Bool.false_ne_true]
inductive Grown(N:Nat→Nb)(s:Nat):Bs→Prop
 |base:Grown N s [(s,none)]
 |more {B:Bs} {q:Nat} {x:D×Nat}:Grown N s B→q∈bK B→x∈N q→x.2∉bK B→Grown N s (B ++ [(x.2,some (x.1,q))])
section
variable{N:Nat→Nb}{s:Nat}{B:Bs}
theorem ae_7(B C:Bs):bK (B ++ C)=bK B ++ bK C:=List.map_append
theorem Grown.nd(g:Grown N s B):(bK B).Nodup:=by
 induction g with
 |base=>simp [bK]
 |more _ _ _ h ih=>
  rw [ae_7];refine List.nodup_append.mpr ⟨ih,by simp [bK],fun a ha b hb e=> ?_⟩;have:b=_:=List.mem_singleton.mp hb;subst e;subst this;exact h ha
theorem Grown.all(g:Grown N s B)(P:Nat→Prop)(h0:P s)(h:∀q,P q→∀x∈N q,P x.2):∀q∈bK B,P q:=by
 induction g with
 |base=>intro q hq;rw [List.mem_singleton.mp hq];exact h0
 |more _ hq hx _ ih=>
  intro q' hq';rw [ae_7] at hq';rcases List.mem_append.mp hq' with e|e
  ·exact ih q' e
  ·rw [List.mem_singleton.mp e];exact h _ (ih _ hq) _ hx
theorem at_1{wk:List (Key×D)}{st q:Nat}:∀(l:Nb) (B:Bs) (Q:List Nat) (a5 a6:Sl),(∀x∈l,x∈N q)→Grown N s B→q∈bK B→B.length + l.length≤10000→Q.length≤B.length→
  ∃C a5' a6',l_2 (gV2 5 6) e_3 (nbT l) [.sh (.int (st:Int)), .sh (.dic wk), .ow (.dic (bD B)), .ow (.lst (zi Q)), .sh (.int (q:Int)),a5,a6]= .nx [.sh (.int (st:Int)), .sh (.dic wk), .ow (.dic (bD (B ++ C))), .ow (.lst (zi (Q ++ bK C))), .sh (.int (q:Int)),a5',a6']∧Grown N s (B ++ C)∧∀x∈l,x.2∈bK (B ++ C)
 | [],B,Q,a5,a6,_,g,_,_,_=>⟨[],a5,a6,by rw [List.append_nil,show bK []= [] from rfl,List.append_nil];rfl,by rw [List.append_nil];exact g,fun x h=>by cases h⟩
 |x::l,B,Q,a5,a6,hl,g,hq,hn,hQ=>by
  have hx:=hl x List.mem_cons_self;have hl':∀y∈l,y∈N q:=fun y hy=>hl y (List.mem_cons_of_mem _ hy);rw [List.length_cons] at hn;have hb:=bu_2 B x.2;have ht:∀g1 g2:FS,sIf [2,6] (eTest (eOp (inK true) (eVar 6) (eVar 2))) g1 g2 [.sh (.int (st:Int)), .sh (.dic wk), .ow (.dic (bD B)), .ow (.lst (zi Q)), .sh (.int (q:Int)), .sh x.1, .sh (.int (x.2:Int))]=if x.2∈bK B then g2 [.sh (.int (st:Int)), .sh (.dic wk), .ow (.dic (bD B)), .ow (.lst (zi Q)), .sh (.int (q:Int)), .sh x.1, .sh (.int (x.2:Int))] else g1 [.sh (.int (st:Int)), .sh (.dic wk), .ow (.dic (bD B)), .ow (.lst (zi Q)), .sh (.int (q:Int)), .sh x.1, .sh (.int (x.2:Int))]:=fun g1 g2=>by
   by_cases hm:x.2∈bK B
   ·rw [if_pos hm];rw [decide_eq_true hm] at hb
    simp_arith [evs,Sl.any,inK,q_4,hb,if_true,Bool.not_true]
   ·rw [if_neg hm];rw [decide_eq_false hm] at hb
    simp_arith [evs,Sl.any,inK,q_4,hb,if_true,Bool.not_false]
  have one:∀Δ2,e_3 [.sh (.int (st:Int)), .sh (.dic wk), .ow (.dic (bD B)), .ow (.lst (zi Q)), .sh (.int (q:Int)), .sh x.1, .sh (.int (x.2:Int))]= .nx Δ2→l_2 (gV2 5 6) e_3 (nbT (x::l)) [.sh (.int (st:Int)), .sh (.dic wk), .ow (.dic (bD B)), .ow (.lst (zi Q)), .sh (.int (q:Int)),a5,a6]=l_2 (gV2 5 6) e_3 (nbT l) Δ2:=fun Δ2 e=>by
   show(match e_3 [.sh (.int (st:Int)), .sh (.dic wk), .ow (.dic (bD B)), .ow (.lst (zi Q)), .sh (.int (q:Int)), .sh x.1, .sh (.int (x.2:Int))] with
    | .nx Δ2=>l_2 (gV2 5 6) e_3 (nbT l) Δ2
    | .ct Δ2=>l_2 (gV2 5 6) e_3 (nbT l) Δ2
    | .bk Δ2=> .nx Δ2
    |r=>r)=_
   rw [e]
  by_cases hm:x.2∈bK B
  ·have e1:e_3 [.sh (.int (st:Int)), .sh (.dic wk), .ow (.dic (bD B)), .ow (.lst (zi Q)), .sh (.int (q:Int)), .sh x.1, .sh (.int (x.2:Int))]= .nx [.sh (.int (st:Int)), .sh (.dic wk), .ow (.dic (bD B)), .ow (.lst (zi Q)), .sh (.int (q:Int)), .sh x.1, .sh (.int (x.2:Int))]:=by
    unfold e_3;rw [ht,if_pos hm];rfl
   obtain⟨C,a5',a6',e,g',h'⟩:=at_1 l B Q (.sh x.1) (.sh (.int (x.2:Int))) hl' g hq (by omega) hQ;refine⟨C,a5',a6',(one _ e1).trans e,g',fun y hy=> ?_⟩;rcases List.mem_cons.mp hy with rfl|hy
   ·rw [ae_7];exact List.mem_append_left _ hm
   ·exact h' y hy
  ·have e1:e_3 [.sh (.int (st:Int)), .sh (.dic wk), .ow (.dic (bD B)), .ow (.lst (zi Q)), .sh (.int (q:Int)), .sh x.1, .sh (.int (x.2:Int))]= .nx [.sh (.int (st:Int)), .sh (.dic wk), .ow (.dic (bD (B ++ [(x.2,some (x.1,q))]))), .ow (.lst (zi (Q ++ [x.2]))), .sh (.int (q:Int)), .sh x.1, .sh (.int (x.2:Int))]:=by
    unfold e_3;rw [ht,if_neg hm];rw [decide_eq_false hm] at hb;have hz:(bD B).length < 16777216:=by unfold bD;rw [List.length_map];omega
    have hy:(zi Q).length < 16777216:=by unfold zi;rw [List.length_map];omega
    have p1:ag_1 2 [4,5] (eVar 6) (eTup (aCons (eVar 5) (aCons (eVar 4) aNil))) [.sh (.int (st:Int)), .sh (.dic wk), .ow (.dic (bD B)), .ow (.lst (zi Q)), .sh (.int (q:Int)), .sh x.1, .sh (.int (x.2:Int))]= .nx [.sh (.int (st:Int)), .sh (.dic wk), .ow (.dic (bD (B ++ [(x.2,some (x.1,q))]))), .ow (.lst (zi Q)), .sh (.int (q:Int)), .sh x.1, .sh (.int (x.2:Int))]:=by
     have e0:o_2 (bD B) (.inl (x.2:Int)) (.tup [x.1, .int (q:Int)])=bD (B ++ [(x.2,some (x.1,q))]):=by
      rw [bo_2 hb];unfold bD;rw [List.map_append];rfl
     rw [←e0];unfold ag_1;show(match eTup (aCons (eVar 5) (aCons (eVar 4) aNil)) [some (.int (st:Int)),some (.dic wk),none,none,some (.int (q:Int)),some x.1,some (.int (x.2:Int))] with
      | .ok w=>(if(bD B).length < 16777216 then Fl.nx [.sh (.int (st:Int)), .sh (.dic wk), .ow (.dic (o_2 (bD B) (.inl (x.2:Int)) w.d)), .ow (.lst (zi Q)), .sh (.int (q:Int)), .sh x.1, .sh (.int (x.2:Int))] else .no)
      |_=> .no)=_
     simp_arith [evs,if_pos hz,W.d_sh]
    rw [b_4 p1];unfold sApp;show(if(zi Q).length < 16777216 then Fl.nx [.sh (.int (st:Int)), .sh (.dic wk), .ow (.dic (bD (B ++ [(x.2,some (x.1,q))]))), .ow (.lst (zi Q ++ [.int (x.2:Int)])), .sh (.int (q:Int)), .sh x.1, .sh (.int (x.2:Int))] else .no)=_;rw [if_pos hy];unfold zi;rw [List.map_append];rfl
   obtain⟨C,a5',a6',e,g',h'⟩:=at_1 l (B ++ [(x.2,some (x.1,q))]) (Q ++ [x.2]) (.sh x.1) (.sh (.int (x.2:Int))) hl' (g.more hq hx hm) (by rw [ae_7];exact List.mem_append_left _ hq) (by rw [List.length_append];simp only [List.length_cons,List.length_nil];omega) (by rw [List.length_append,List.length_append];simp only [List.length_cons,List.length_nil];omega);refine⟨(x.2,some (x.1,q))::C,a5',a6',(one _ e1).trans (e.trans ?_), ?_,fun y hy=> ?_⟩
   ·rw [List.append_assoc,List.append_assoc];rfl
   ·rw [List.append_assoc] at g';exact g'
   ·rw [List.append_assoc] at h';rcases List.mem_cons.mp hy with rfl|hy
    ·rw [ae_7];exact List.mem_append_right _ List.mem_cons_self
    ·exact h' y hy
end
section
variable{N:Nat→Nb}{s:Nat}{wk:List (Key×D)}
theorem cr_6(wd:WD wk N)(q:Nat)(a0 a2 a3 a5 a6:Option D):iOf (bj_2 (eVar 1) (eVar 4) (eLst aNil)) [a0,some (.dic wk),a2,a3,some (.int (q:Int)),a5,a6]= .ok (nbT (N q)):=by
 have h:=wd q;cases e:f_0 wk (.inl (q:Int)) with
 |some v=>
  rw [e] at h;simp only [Option.getD_some] at h;subst h
  simp_arith [evs,bj_2,bx_8,q_4,e]
 |none=>
  rw [e] at h;simp only [Option.getD_none] at h;injection h with h
  simp_arith [evs,bj_2,bx_8,q_4,e,←h]
theorem ch_4(wd:WD wk N){M:Nat}(hM:M≤1000)(hN:∀q,∀x∈N q,x.2 < M)(hn:∀q,(N q).length≤1000)(hs:s < M):∀(n:Nat) (P Q:List Nat) (B:Bs) (a4 a5 a6:Sl),bK B=P ++ Q→Grown N s B→(∀q∈P,∀x∈N q,x.2∈bK B)→M < n + P.length→
  ∃B' a4' a5' a6',r_6 [3] r_0 r_1 n [.sh (.int (s:Int)), .sh (.dic wk), .ow (.dic (bD B)), .ow (.lst (zi Q)),a4,a5,a6]= .nx [.sh (.int (s:Int)), .sh (.dic wk), .ow (.dic (bD B')), .ow (.lst []),a4',a5',a6']∧Grown N s B'∧∀q∈bK B',∀x∈N q,x.2∈bK B':=by
 intro n;have small:∀B,Grown N s B→B.length≤M:=fun B g=>by
  have:=bu_1 M (bK B) g.nd (g.all (· < M) hs fun q _ x hx=>hN q x hx)
  rwa [List.length_map] at this
 have bl:∀B P Q,bK B=P ++ Q→B.length=P.length + Q.length:=fun B P Q h=>by
  have:=congrArg List.length h
  rwa [List.length_map,List.length_append] at this
 induction n with
 |zero=>
  intro P Q B a4 a5 a6 hb g _ hm;have:=small B g;have:=bl B P Q hb;omega
 |succ n ih=>
  intro P Q B a4 a5 a6 hb g hc hm;have h1:=small B g;have h2:=bl B P Q hb;have zl:(zi Q).length=Q.length:=by unfold zi;rw [List.length_map]
  have ht:r_0 (vall [.sh (.int (s:Int)), .sh (.dic wk), .ow (.dic (bD B)), .ow (.lst (zi Q)),a4,a5,a6])= .ok (decide ((0:Int) < (Q.length:Int))):=by
   simp_arith [r_0,evs,t_2,dc_2,zl]
  unfold r_6;rw [ht];cases Q with
  |nil=>
   refine⟨B,a4,a5,a6,rfl,g, ?_⟩;rw [List.append_nil] at hb;rw [hb];rw [hb] at hc;exact hc
  |cons q Q=>
   have hq:q∈bK B:=by rw [hb];simp
   rw [List.length_cons] at h2;have hnq:=hn q;have p1:bm_8 4 3 (eC (.int 0)) [.sh (.int (s:Int)), .sh (.dic wk), .ow (.dic (bD B)), .ow (.lst (zi (q::Q))),a4,a5,a6]= .nx [.sh (.int (s:Int)), .sh (.dic wk), .ow (.dic (bD B)), .ow (.lst (zi Q)), .sh (.int (q:Int)),a5,a6]:=by
    have zc:zi (q::Q)= .int (q:Int)::zi Q:=rfl;have z2:(zi Q).length=Q.length:=by unfold zi;rw [List.length_map]
    rw [zc];unfold bm_8
    simp_arith [evs]
    rw [if_pos ⟨by decide,by rw [z2];omega,by rw [z2];omega⟩];rfl
   obtain⟨C,a5',a6',e,g',h'⟩:=at_1 (wk:=wk) (st:=s) (q:=q) (N q) B Q a5 a6 (fun _ h=>h) g hq (by omega) (by omega);have p2:r_1 [.sh (.int (s:Int)), .sh (.dic wk), .ow (.dic (bD B)), .ow (.lst (zi (q::Q))),a4,a5,a6]= .nx [.sh (.int (s:Int)), .sh (.dic wk), .ow (.dic (bD (B ++ C))), .ow (.lst (zi (Q ++ bK C))), .sh (.int (q:Int)),a5',a6']:=by
    unfold r_1;rw [b_4 p1];unfold sFor;rw [show vsh [.sh (.int (s:Int)), .sh (.dic wk), .ow (.dic (bD B)), .ow (.lst (zi Q)), .sh (.int (q:Int)),a5,a6]= [some (.int (s:Int)),some (.dic wk),none,none,some (.int (q:Int)),a5.pub,a6.pub] from rfl,cr_6 wd];exact e
   have h0:(0:Int) < ((q::Q).length:Int):=by rw [List.length_cons];omega
   rw [decide_eq_true h0];simp only [if_true,p2];obtain⟨B',b4,b5,b6,e2,g2,h2'⟩:=ih (P ++ [q]) (Q ++ bK C) (B ++ C) (.sh (.int (q:Int))) a5' a6' (by rw [ae_7,hb];simp) g' (fun y hy x hx=>by
    rcases List.mem_append.mp hy with h|h
    ·rw [ae_7];exact List.mem_append_left _ (hc y h x hx)
    ·rw [List.mem_singleton.mp h] at hx;exact h' x hx) (by rw [List.length_append];simp only [List.length_cons,List.length_nil];omega)
   exact⟨B',b4,b5,b6,e2,g2,h2'⟩
theorem bo_3(wd:WD wk N){M:Nat}(hM:M≤1000)(hN:∀q,∀x∈N q,x.2 < M)(hn:∀q,(N q).length≤1000)(hs:s < M):
  ∃B,i_4 [.int (s:Int), .dic wk]= .ok (.ow (.dic (bD B)))∧Grown N s B∧(∀q∈bK B,∀x∈N q,x.2∈bK B)∧B.length≤M:=by
 obtain⟨B,a4,a5,a6,e,g,h⟩:=ch_4 (s:=s) wd hM hN hn hs 3000 [] [s] [(s,none)] .no .no .no rfl .base (fun q hq=>by cases hq) (by simp only [List.length_nil];omega);refine⟨B, ?_,g,h, ?_⟩
 ·have q:ae_2 (start3 7 [.int (s:Int), .dic wk])=sRetV 2 [.sh (.int (s:Int)), .sh (.dic wk), .ow (.dic (bD B)), .ow (.lst []),a4,a5,a6]:=by
   unfold ae_2;rw [show start3 7 [.int (s:Int), .dic wk]= [.sh (.int (s:Int)), .sh (.dic wk), .no, .no, .no, .no, .no] from rfl];refine(b_4 (Δ':= [.sh (.int (s:Int)), .sh (.dic wk), .ow (.dic (bD [(s,none)])), .no, .no, .no, .no]) rfl).trans ?_;refine(b_4 (Δ':= [.sh (.int (s:Int)), .sh (.dic wk), .ow (.dic (bD [(s,none)])), .ow (.lst (zi [s])), .no, .no, .no]) rfl).trans ?_;exact b_4 e
  exact ag_3 q
 ·have:=bu_1 M (bK B) g.nd (g.all (· < M) hs fun q _ x hx=>hN q x hx)
  rwa [List.length_map] at this
end
def h_3(T:List Int)(S:List Nat)(p m l1 l2:Int):List Int:=T.mapIdx fun i n=>if i∈S then(n + if(i:Int) < p then l1 else l2) % m else n
theorem ab_6(T:List Int)(S:List Nat)(p m l1 l2:Int):(h_3 T S p m l1 l2).length=T.length:=by
 unfold h_3;rw [List.length_mapIdx]
theorem ch_5(T:List Int)(S:List Nat)(p m l1 l2:Int)(i:Nat):(h_3 T S p m l1 l2)[i]? =(T[i]?).map fun n=>if i∈S then(n + if(i:Int) < p then l1 else l2) % m else n:=by
 unfold h_3;rw [List.getElem?_mapIdx]
section
variable{p s m l1 l2:Int}{T:List Int}{kds:List (Key×D)}{B:Bs}
theorem ch_6{L:List Int}{i:Nat}{n:Int}(hm:0 < m)(hL:L.length≤1000)(a7:Sl):j_4 [.lt (a_7 p s m T kds), .sh (.dic (bD B)), .sh (.int l1), .sh (.int l2), .ow (.lst (L.map .int)), .sh (.int (i:Int)), .sh (.int n),a7]= .nx [.lt (a_7 p s m T kds), .sh (.dic (bD B)), .sh (.int l1), .sh (.int l2), .ow (.lst ((L ++ [if i∈bK B then(n + if(i:Int) < p then l1 else l2) % m else n]).map .int)), .sh (.int (i:Int)), .sh (.int n), .sh (.int (if(i:Int) < p then l1 else l2))]:=by
 have e1:∀δ,j_2 ["Living"] "part" (eVar 0) (some (e_5 p s m T kds)::δ)= .ok (.sh (.int p)):=fun δ=>fld rfl rfl;have e2:∀δ,j_2 ["Living"] "modulus" (eVar 0) (some (e_5 p s m T kds)::δ)= .ok (.sh (.int m)):=fun δ=>fld rfl rfl;have q1:l_9 7 (j_6 [0] (eIf (eTest (eOp ltD (eVar 5) (j_2 ["Living"] "part" (eVar 0)))) (eVar 2) (eVar 3))) [.lt (a_7 p s m T kds), .sh (.dic (bD B)), .sh (.int l1), .sh (.int l2), .ow (.lst (L.map .int)), .sh (.int (i:Int)), .sh (.int n),a7]= .nx [.lt (a_7 p s m T kds), .sh (.dic (bD B)), .sh (.int l1), .sh (.int l2), .ow (.lst (L.map .int)), .sh (.int (i:Int)), .sh (.int n), .sh (.int (if(i:Int) < p then l1 else l2))]:=by
  unfold l_9;rw [w_7 (w:= .sh (.int (if(i:Int) < p then l1 else l2))) ?_ rfl]
  ·rfl
  ·by_cases h:(i:Int) < p
   ·simp_arith [evs,e1,ak_6,h]
   ·simp_arith [evs,e1,ak_6,h]
 unfold j_4;rw [b_4 q1];generalize (if(i:Int) < p then l1 else l2)=w;have hb:=bu_2 B i;have hl:(L.map D.int).length < 16777216:=by rw [List.length_map];omega
 unfold sApp
 by_cases h:i∈bK B
 ·rw [decide_eq_true h] at hb;have hr:=ah_2 (n + w) m hm;have e0:j_2 ["Living"] "modulus" (eVar 0) [none,some (.dic (bD B)),some (.int l1),some (.int l2),none,some (.int (i:Int)),some (.int n),some (.int w)]= .no:=rfl
  simp_arith [evs,Sl.any,Sl.pub,w_6,inK,q_4,hb,if_true,e0,e2,l_4,hr,if_pos h,if_pos hl,List.map_append]
 ·rw [decide_eq_false h] at hb
  simp_arith [evs,Sl.any,Sl.pub,inK,q_4,hb,if_true,if_neg h,if_pos hl,List.map_append]
end
section
variable{p s m l1 l2:Int}{T:List Int}{kds:List (Key×D)}{B:Bs}
theorem bu_3{i:Nat}{n:Int}(h:T[i]? =some n):(h_3 T (bK B) p m l1 l2).take (i + 1)=(h_3 T (bK B) p m l1 l2).take i ++ [if i∈bK B then(n + if(i:Int) < p then l1 else l2) % m else n]:=by
 rw [List.take_add_one,ch_5,h];rfl
theorem cr_7(hm:0 < m)(hT:T.length≤1000):d_2 (a_7 p s m T kds) [.dic (bD B), .int l1, .int l2]= .ok .non (a_7 p s m (h_3 T (bK B) p m l1 l2) kds):=by
 let I:Nat→SE→Prop:=fun i Δ=>∃a5 a6 a7:Sl,Δ= [.lt (a_7 p s m T kds), .sh (.dic (bD B)), .sh (.int l1), .sh (.int l2), .ow (.lst (((h_3 T (bK B) p m l1 l2).take i).map .int)),a5,a6,a7]
 obtain⟨Δ',e,a5,a6,a7,rfl⟩:=aa_7 (gV2 5 6) j_4 I (ds:=x_3 0 (T.map .int)) (Δ:= [.lt (a_7 p s m T kds), .sh (.dic (bD B)), .sh (.int l1), .sh (.int l2), .ow (.lst []), .no, .no, .no]) ⟨_,_,_,rfl⟩
  (fun i d Δ hd ⟨a5,a6,a7,e⟩=>by
   subst e;obtain⟨d',h1,h2⟩:=aa_4 hd;rw [List.getElem?_map] at h1;cases he:T[i]? with
   |none=>rw [he] at h1;cases h1
   |some n=>
    rw [he] at h1;cases h1;rw [Nat.zero_add] at h2;subst h2;refine⟨_,rfl,_, .inl (ch_6 (n:=n) hm ?_ a7), .sh (.int (i:Int)), .sh (.int n), .sh (.int (if(i:Int) < p then l1 else l2)), ?_⟩
    ·rw [List.length_take,ab_6];omega
    ·rw [bu_3 he])
 rw [aa_5,List.length_map,←ab_6 T (bK B) p m l1 l2,List.take_length] at e;have q1:bm_7 (j_6 [0] (j_2 ["Living"] "listed" (eVar 0))) (gV2 5 6) j_4 [.lt (a_7 p s m T kds), .sh (.dic (bD B)), .sh (.int l1), .sh (.int l2), .ow (.lst []), .no, .no, .no]= .nx [.lt (a_7 p s m T kds), .sh (.dic (bD B)), .sh (.int l1), .sh (.int l2), .ow (.lst ((h_3 T (bK B) p m l1 l2).map .int)),a5,a6,a7]:=by
  unfold bm_7;rw [w_7 (w:= .sh (.lst (T.map .int))) (fld rfl rfl) (by show c_9 (.lst (T.map .int))=true;simp only [c_9,s_3])];exact e
 have q2:bm_4 0 ["Living"] "listed" [4] (eVar 4) [.lt (a_7 p s m T kds), .sh (.dic (bD B)), .sh (.int l1), .sh (.int l2), .ow (.lst ((h_3 T (bK B) p m l1 l2).map .int)),a5,a6,a7]= .nx [.lt (a_7 p s m (h_3 T (bK B) p m l1 l2) kds), .sh (.dic (bD B)), .sh (.int l1), .sh (.int l2), .sh (.lst ((h_3 T (bK B) p m l1 l2).map .int)),a5,a6,a7]:=by
  have hc:lN.contains ("listed" :Str)=true:=by decide +kernel
  have hg:gsome [4] [.lt (a_7 p s m T kds), .sh (.dic (bD B)), .sh (.int l1), .sh (.int l2), .ow (.lst ((h_3 T (bK B) p m l1 l2).map .int)),a5,a6,a7]= [.lt (a_7 p s m T kds), .sh (.dic (bD B)), .sh (.int l1), .sh (.int l2), .sh (.lst ((h_3 T (bK B) p m l1 l2).map .int)),a5,a6,a7]:=rfl;have hb:(([.lt (a_7 p s m T kds), .sh (.dic (bD B)), .sh (.int l1), .sh (.int l2), .sh (.lst ((h_3 T (bK B) p m l1 l2).map .int)),a5,a6,a7]:SE)[0]?).bind Sl.tree=some (a_7 p s m T kds,true):=rfl;have hv:eVar 4 (vsh [.lt (a_7 p s m T kds), .sh (.dic (bD B)), .sh (.int l1), .sh (.int l2), .sh (.lst ((h_3 T (bK B) p m l1 l2).map .int)),a5,a6,a7])= .ok (.sh (.lst ((h_3 T (bK B) p m l1 l2).map .int))):=rfl;unfold bm_4;rw [hg,hb,hv];have hn:lN.length < 1000:=by decide
  unfold a_7;simp only [at_0,hc,hn,and_self,if_true,W.d_sh,dk_4];rfl
 unfold d_2 m_3 z_2;rw [show n_8 8 (a_7 p s m T kds) [.dic (bD B), .int l1, .int l2]= [.lt (a_7 p s m T kds), .sh (.dic (bD B)), .sh (.int l1), .sh (.int l2), .no, .no, .no, .no] from rfl];have q0:sSet 4 [] (eLst aNil) [.lt (a_7 p s m T kds), .sh (.dic (bD B)), .sh (.int l1), .sh (.int l2), .no, .no, .no, .no]= .nx [.lt (a_7 p s m T kds), .sh (.dic (bD B)), .sh (.int l1), .sh (.int l2), .ow (.lst []), .no, .no, .no]:=rfl;rw [b_4 q0,b_4 q1,q2]
end
def at_2:Xn:=⟨"Stuck", [], []⟩
theorem lenB(B:Bs):(bD B).length=B.length:=by unfold bD;rw [List.length_map]
section
variable{p s m l:Int}{T:List Int}{kds wk:List (Key×D)}{N:Nat→Nb}{a b:Nat}
def cb_2(p s m l:Int)(T:List Int)(kds:List (Key×D))(b:Nat)(B1 B2:Bs):RR:=
 if b∈bK B1 then .ex at_2 (a_7 p s m T kds) else if B1.length≤B2.length then .ok (.int (B1.length:Int)) (a_7 p s m (h_3 T (bK B1) p m l (-l)) kds) else .ok (.int (B2.length:Int)) (a_7 p s m (h_3 T (bK B2) p m (-l) l) kds)
theorem db_2{B1 B2:Bs}(z:Szs p s m T)(f1:i_4 [.int (a:Int), .dic wk]= .ok (.ow (.dic (bD B1))))(f2:i_4 [.int (b:Int), .dic wk]= .ok (.ow (.dic (bD B2)))):g_5 (a_7 p s m T kds) [.tup (zi [a,b]), .int l, .dic wk]=cb_2 p s m l T kds b B1 B2:=by
 have hm:0 < m:=by have:=z.m0;omega
 have hT:T.length≤1000:=by have:=z.tl;have:=z.p1;omega
 have i0:ixD (.tup (zi [a,b])) (.int 0)= .ok (.sh (.int (a:Int))):=rfl;have i1:ixD (.tup (zi [a,b])) (.int 1)= .ok (.sh (.int (b:Int))):=rfl;have k1:=t_5 (n:=3) (p:=p) (s:=s) (m:=m) (T:=T) (kds:=kds) (M:=d_2) (ga:=a_8 (eVar 4) (a_8 (eVar 2) (a_8 (eNeg (eVar 2)) h_0))) (Δ:= [.sh (.tup (zi [a,b])), .sh (.int l), .sh (.dic wk), .sh (.dic (bD B1)), .ow (.dic (bD B2))]) (ds:= [.dic (bD B1), .int l, .int (-l)]) (mn:= "shift") (by decide +kernel) rfl rfl;have k2:=t_5 (n:=3) (p:=p) (s:=s) (m:=m) (T:=T) (kds:=kds) (M:=d_2) (ga:=a_8 (eVar 5) (a_8 (eNeg (eVar 2)) (a_8 (eVar 2) h_0))) (Δ:= [.sh (.tup (zi [a,b])), .sh (.int l), .sh (.dic wk), .ow (.dic (bD B1)), .sh (.dic (bD B2))]) (ds:= [.dic (bD B2), .int (-l), .int l]) (mn:= "shift") (by decide +kernel) rfl rfl;rw [cr_7 hm hT] at k1 k2;unfold g_5 m_3 ac_7 cb_2;generalize a_7 p s m (h_3 T (bK B1) p m l (-l)) kds=t1 at k1⊢;generalize a_7 p s m (h_3 T (bK B2) p m (-l) l) kds=t2 at k2⊢;generalize a_7 p s m T kds=t at k1 k2⊢;rw [show n_8 6 t [.tup (zi [a,b]), .int l, .dic wk]= [.lt t, .sh (.tup (zi [a,b])), .sh (.int l), .sh (.dic wk), .no, .no] from rfl];have q1:sSet 4 [1,3] (eFn 2 i_4 (aCons (eOp ixD (eVar 1) (eC (.int 0))) (aCons (eVar 3) aNil))) [.lt t, .sh (.tup (zi [a,b])), .sh (.int l), .sh (.dic wk), .no, .no]= .nx [.lt t, .sh (.tup (zi [a,b])), .sh (.int l), .sh (.dic wk), .ow (.dic (bD B1)), .no]:=by
  simp_arith [evs,Sl.any,Sl.pub,Sl.give,i0,f1]
 have q2:sSet 5 [1,3] (eFn 2 i_4 (aCons (eOp ixD (eVar 1) (eC (.int 1))) (aCons (eVar 3) aNil))) [.lt t, .sh (.tup (zi [a,b])), .sh (.int l), .sh (.dic wk), .ow (.dic (bD B1)), .no]= .nx [.lt t, .sh (.tup (zi [a,b])), .sh (.int l), .sh (.dic wk), .ow (.dic (bD B1)), .ow (.dic (bD B2))]:=by
  simp_arith [evs,Sl.any,Sl.pub,Sl.give,i1,f2]
 rw [b_4 q1,b_4 q2];have hb:=bu_2 B1 b
 by_cases h:b∈bK B1
 ·rw [decide_eq_true h] at hb;have q3:sIf [1,4] (eTest (eOp (inK false) (eOp ixD (eVar 1) (eC (.int 1))) (eVar 4))) (w_1 "Stuck") sNil [.lt t, .sh (.tup (zi [a,b])), .sh (.int l), .sh (.dic wk), .ow (.dic (bD B1)), .ow (.dic (bD B2))]= .ex at_2 [.lt t, .sh (.tup (zi [a,b])), .sh (.int l), .sh (.dic wk), .ow (.dic (bD B1)), .ow (.dic (bD B2))]:=by
   simp_arith [evs,Sl.any,i1,inK,q_4,hb,if_true]
   rfl
  rw [if_pos h];unfold sSeq;rw [q3]
 ·rw [decide_eq_false h] at hb;have q3:sIf [1,4] (eTest (eOp (inK false) (eOp ixD (eVar 1) (eC (.int 1))) (eVar 4))) (w_1 "Stuck") sNil [.lt t, .sh (.tup (zi [a,b])), .sh (.int l), .sh (.dic wk), .ow (.dic (bD B1)), .ow (.dic (bD B2))]= .nx [.lt t, .sh (.tup (zi [a,b])), .sh (.int l), .sh (.dic wk), .ow (.dic (bD B1)), .ow (.dic (bD B2))]:=by
   simp_arith [evs,Sl.any,i1,inK,q_4,hb,if_true]
  rw [if_neg h,b_4 q3];have lk:∀B,u_8 [.dic (bD B)]= .ok (.sh (.int (B.length:Int))):=fun B=>by
   have:=lenB B;show R.ok (W.sh (.int ((bD B).length:Int)))=_;rw [this]
  by_cases hl:B1.length≤B2.length
  ·have q4:∀g1 g2:FS,sIf [4,5] (eTest (eOp leD (eCall u_8 (aCons (eVar 4) aNil)) (eCall u_8 (aCons (eVar 5) aNil)))) g1 g2 [.lt t, .sh (.tup (zi [a,b])), .sh (.int l), .sh (.dic wk), .ow (.dic (bD B1)), .ow (.dic (bD B2))]=g1 [.lt t, .sh (.tup (zi [a,b])), .sh (.int l), .sh (.dic wk), .ow (.dic (bD B1)), .ow (.dic (bD B2))]:=fun g1 g2=>by
    simp_arith [evs,Sl.any,lk,y_5,show(B1.length:Int)≤(B2.length:Int) by omega]
   rw [if_pos hl];unfold sSeq;rw [q4];have q5:k_1 (d_5 [2,4] (m_0 0 3 "shift" "Living" d_2 (a_8 (eVar 4) (a_8 (eVar 2) (a_8 (eNeg (eVar 2)) h_0))))) [.lt t, .sh (.tup (zi [a,b])), .sh (.int l), .sh (.dic wk), .ow (.dic (bD B1)), .ow (.dic (bD B2))]= .nx [.lt t1, .sh (.tup (zi [a,b])), .sh (.int l), .sh (.dic wk), .sh (.dic (bD B1)), .ow (.dic (bD B2))]:=by
    unfold k_1 d_5;rw [show gsome [2,4] [.lt t, .sh (.tup (zi [a,b])), .sh (.int l), .sh (.dic wk), .ow (.dic (bD B1)), .ow (.dic (bD B2))]= [.lt t, .sh (.tup (zi [a,b])), .sh (.int l), .sh (.dic wk), .sh (.dic (bD B1)), .ow (.dic (bD B2))] from rfl,k1];rfl
   rw [q5];have q6:l_6 (h_6 [4] (eCall u_8 (aCons (eVar 4) aNil))) [.lt t1, .sh (.tup (zi [a,b])), .sh (.int l), .sh (.dic wk), .sh (.dic (bD B1)), .ow (.dic (bD B2))]= .rv (.int (B1.length:Int)) [.lt t1, .sh (.tup (zi [a,b])), .sh (.int l), .sh (.dic wk), .sh (.dic (bD B1)), .ow (.dic (bD B2))]:=by
    unfold l_6 h_6
    simp_arith [evs,Sl.any,Sl.pub,lk]
   simp only [q6]
  ·have q4:∀g1 g2:FS,sIf [4,5] (eTest (eOp leD (eCall u_8 (aCons (eVar 4) aNil)) (eCall u_8 (aCons (eVar 5) aNil)))) g1 g2 [.lt t, .sh (.tup (zi [a,b])), .sh (.int l), .sh (.dic wk), .ow (.dic (bD B1)), .ow (.dic (bD B2))]=g2 [.lt t, .sh (.tup (zi [a,b])), .sh (.int l), .sh (.dic wk), .ow (.dic (bD B1)), .ow (.dic (bD B2))]:=fun g1 g2=>by
    simp_arith [evs,Sl.any,lk,y_5,show¬(B1.length:Int)≤(B2.length:Int) by omega]
   rw [if_neg hl];have q5:k_1 (d_5 [2,5] (m_0 0 3 "shift" "Living" d_2 (a_8 (eVar 5) (a_8 (eNeg (eVar 2)) (a_8 (eVar 2) h_0))))) [.lt t, .sh (.tup (zi [a,b])), .sh (.int l), .sh (.dic wk), .ow (.dic (bD B1)), .ow (.dic (bD B2))]= .nx [.lt t2, .sh (.tup (zi [a,b])), .sh (.int l), .sh (.dic wk), .ow (.dic (bD B1)), .sh (.dic (bD B2))]:=by
    unfold k_1 d_5;rw [show gsome [2,5] [.lt t, .sh (.tup (zi [a,b])), .sh (.int l), .sh (.dic wk), .ow (.dic (bD B1)), .ow (.dic (bD B2))]= [.lt t, .sh (.tup (zi [a,b])), .sh (.int l), .sh (.dic wk), .ow (.dic (bD B1)), .sh (.dic (bD B2))] from rfl,k2];rfl
   have q6:l_6 (h_6 [5] (eCall u_8 (aCons (eVar 5) aNil))) [.lt t2, .sh (.tup (zi [a,b])), .sh (.int l), .sh (.dic wk), .ow (.dic (bD B1)), .sh (.dic (bD B2))]= .rv (.int (B2.length:Int)) [.lt t2, .sh (.tup (zi [a,b])), .sh (.int l), .sh (.dic wk), .ow (.dic (bD B1)), .sh (.dic (bD B2))]:=by
    unfold l_6 h_6
    simp_arith [evs,Sl.any,Sl.pub,lk]
   unfold sSeq;rw [q4];simp only [sNil,q5,q6]
end
structure Srch(N:Nat→Nb)(s M:Nat)(B:Bs):Prop where
 g:Grown N s B
 cl:∀q∈bK B,∀x∈N q,x.2∈bK B
 le:B.length≤M
section
variable{p s m:Int}{T:List Int}{kds:List (Key×D)}{ks:List D}{d:D}{v:Int}
def s_4(T:List Int)(d:D)(s p m v:Int):Int:=v - ca_2 T [pA d s p,pB d s p] % m
def putR(p s m v:Int)(T:List Int)(kds:List (Key×D))(d:D)(B1 B2:Bs):RR:=
 if s_4 T d s p m v=0 then .ok (.int 0) (a_7 p s m T (o_2 kds (kOf d) (.int v)))
 else if pB d s p∈bK B1 then .ex at_2 (a_7 p s m T kds)
 else if B1.length≤B2.length then .ok (.int (B1.length:Int)) (a_7 p s m (h_3 T (bK B1) p m (s_4 T d s p m v) (-s_4 T d s p m v)) (o_2 kds (kOf d) (.int v)))
 else .ok (.int (B2.length:Int)) (a_7 p s m (h_3 T (bK B2) p m (-s_4 T d s p m v) (s_4 T d s p m v)) (o_2 kds (kOf d) (.int v)))
theorem db_3{E:List Ed}{q:Nat}{x:D×Nat}(h:x∈nbr E q):∃e∈E,(e.2.1=q∧x=(e.1,e.2.2))∨(e.2.2=q∧x=(e.1,e.2.1)):=by
 unfold nbr at h;obtain⟨e,he,hx⟩:=List.mem_flatMap.mp h;refine⟨e,he, ?_⟩;rcases List.mem_append.mp hx with hx|hx
 ·split at hx
  ·rename_i hq;exact .inl ⟨hq,List.mem_singleton.mp hx⟩
  ·cases hx
 ·split at hx
  ·rename_i hq;exact .inr ⟨hq,List.mem_singleton.mp hx⟩
  ·cases hx
theorem dk_9(z:Szs p s m T)(h:KOk kds ks)(hd:d_4 d)(v0:0≤v)(v1:v < m):∃B1 B2,Srch (nbr (l_0 ks d s p)) (pA d s p) (2 * p).toNat B1∧Srch (nbr (l_0 ks d s p)) (pB d s p) (2 * p).toNat B2∧c_3 (a_7 p s m T kds) [d, .int v]=putR p s m v T kds d B1 B2:=by
 have p0:=z.p0;have p1:=z.p1;have a:=ca_3 d s p0;have b:=ca_4 d s p0;obtain⟨w,wk,ew,pw,dw,wd⟩:=bu_0 z h hd;have hN:∀q,∀x∈nbr (l_0 ks d s p) q,x.2 < (2 * p).toNat:=fun q x hx=>by
  obtain⟨e,he,hx⟩:=db_3 hx;obtain⟨y,hy,rfl⟩:=List.mem_map.mp he;have a:=ca_3 y s p0;have b:=ca_4 y s p0;rcases hx with⟨_,rfl⟩|⟨_,rfl⟩
  ·show pB y s p < _;omega
  ·show pA y s p < _;omega
 have hn:∀q,(nbr (l_0 ks d s p) q).length≤1000:=fun q=>by
  have h1:=cb_0 (l_0 ks d s p) q;have h2:(l_0 ks d s p).length≤ks.length:=by unfold l_0;rw [List.length_map];exact List.length_filter_le _ _
  have:=h.len;omega
 obtain⟨B1,f1,g1,c1,l1⟩:=bo_3 (s:=pA d s p) wd (M:=(2 * p).toNat) (by omega) hN hn (by omega);obtain⟨B2,f2,g2,c2,l2⟩:=bo_3 (s:=pB d s p) wd (M:=(2 * p).toNat) (by omega) hN hn (by omega);refine⟨B1,B2,⟨g1,c1,l1⟩,⟨g2,c2,l2⟩, ?_⟩;have hp:=ab_2 (m:=m) (T:=T) (kds:=kds) hd z.s0 z.s1 z.p0 (by have:=z.p1;omega);rw [w_9 d s p0] at hp;have e2:c_7 "places" 1 [("Living",b_1)] (eVar 0) (aCons (eVar 1) aNil) [some (e_5 p s m T kds),some d,some (.int v),none,none,none]= .ok (.sh (.tup (zi [pA d s p,pB d s p]))):=(met1 (w:= .sh d) rfl rfl (by decide +kernel)).trans hp;have e3:j_2 ["Living"] "modulus" (eVar 0) [some (e_5 p s m T kds),some d,some (.int v),some (.tup (zi [pA d s p,pB d s p])),none,none]= .ok (.sh (.int m)):=fld rfl rfl;have e4:c_7 "value" 1 [("Living",c_6)] (eVar 0) (aCons (eVar 1) aNil) [some (e_5 p s m T kds),some d,some (.int v),some (.tup (zi [pA d s p,pB d s p])),none,none]= .ok (.sh (.int (ca_2 T [pA d s p,pB d s p] % m))):=(met1 (w:= .sh d) rfl rfl (by decide +kernel)).trans (cq_5 z hd);have e5:c_7 "ways_without" 1 [("Living",b_2)] (eVar 0) (aCons (eVar 1) aNil) [some (e_5 p s m T kds),some d,some (.int v),some (.tup (zi [pA d s p,pB d s p])),some (.int (s_4 T d s p m v)),some (.int 0)]= .ok w:=(met1 (w:= .sh d) rfl rfl (by decide +kernel)).trans ew;have yb:0≤v∧v < m:=⟨v0,v1⟩;unfold c_3 m_3 r_2;rw [show n_8 6 (a_7 p s m T kds) [d, .int v]= [.lt (a_7 p s m T kds), .sh d, .sh (.int v), .no, .no, .no] from rfl];have q1:l_9 3 (j_6 [0] (c_7 "places" 1 [("Living",b_1)] (eVar 0) (aCons (eVar 1) aNil))) [.lt (a_7 p s m T kds), .sh d, .sh (.int v), .no, .no, .no]= .nx [.lt (a_7 p s m T kds), .sh d, .sh (.int v), .sh (.tup (zi [pA d s p,pB d s p])), .no, .no]:=by
  unfold l_9;rw [w_7 e2 rfl];rfl
 have q2:sIf [0,2] (tNotF (eTruth (eFn 2 h_1 (aCons (eVar 2) (aCons (j_2 ["Living"] "modulus" (eVar 0)) aNil))))) (t_9 "NoValue" "at" [] (eC (.int 0))) sNil [.lt (a_7 p s m T kds), .sh d, .sh (.int v), .sh (.tup (zi [pA d s p,pB d s p])), .no, .no]= .nx [.lt (a_7 p s m T kds), .sh d, .sh (.int v), .sh (.tup (zi [pA d s p,pB d s p])), .no, .no]:=by
  simp_arith [evs,Sl.any,w_6,e3,bn_9,yb,tNotF,t_9,and_self,decide_true]
 have q3:l_9 4 (j_6 [0] (eOp subD (eVar 2) (c_7 "value" 1 [("Living",c_6)] (eVar 0) (aCons (eVar 1) aNil)))) [.lt (a_7 p s m T kds), .sh d, .sh (.int v), .sh (.tup (zi [pA d s p,pB d s p])), .no, .no]= .nx [.lt (a_7 p s m T kds), .sh d, .sh (.int v), .sh (.tup (zi [pA d s p,pB d s p])), .sh (.int (s_4 T d s p m v)), .no]:=by
  unfold l_9;rw [w_7 (w:= .sh (.int (s_4 T d s p m v))) ?_ rfl]
  ·rfl
  ·simp_arith [evs,Sl.any,Sl.pub,e4,y_4,s_4]
 have q4:sSet 5 [] (eC (.int 0)) [.lt (a_7 p s m T kds), .sh d, .sh (.int v), .sh (.tup (zi [pA d s p,pB d s p])), .sh (.int (s_4 T d s p m v)), .no]= .nx [.lt (a_7 p s m T kds), .sh d, .sh (.int v), .sh (.tup (zi [pA d s p,pB d s p])), .sh (.int (s_4 T d s p m v)), .sh (.int 0)]:=rfl;rw [b_4 q1,b_4 q2,b_4 q3,b_4 q4];have fin:∀(T':List Int) (c:Int),(match sSeq (ay_9 0 ["Living"] "by_key" (eVar 1) (eVar 2)) (l_6 (h_6 [5] (eVar 5))) [.lt (a_7 p s m T' kds), .sh d, .sh (.int v), .sh (.tup (zi [pA d s p,pB d s p])), .sh (.int (s_4 T d s p m v)), .sh (.int c)] with
   | .nx (.lt t'::_)=>RR.ok .non t'
   | .rv d (.lt t'::_)=> .ok d t'
   | .ex x (.lt t'::_)=> .ex x t'
   |_=> .no)= .ok (.int c) (a_7 p s m T' (o_2 kds (kOf d) (.int v))):=fun T' c=>by
  rw [b_4 (fput (k:=kOf d) (w:= .sh d) (v:= .sh (.int v)) rfl (v_5 hd) rfl (by rw [h.length];have:=h.len;omega))];rfl
 have ne:neD (.int (s_4 T d s p m v)) (.int 0)= .ok (.sh (.bl (!decide (s_4 T d s p m v=0)))):=cx_1 _ _;unfold putR;clear q1 q2 q3 q4 e4;generalize s_4 T d s p m v=l at e5 fin ne⊢
 by_cases hz:l=0
 ·have q5:∀g:FS,sIf [4] (eTest (eOp neD (eVar 4) (eC (.int 0)))) g sNil [.lt (a_7 p s m T kds), .sh d, .sh (.int v), .sh (.tup (zi [pA d s p,pB d s p])), .sh (.int (l)), .sh (.int 0)]= .nx [.lt (a_7 p s m T kds), .sh d, .sh (.int v), .sh (.tup (zi [pA d s p,pB d s p])), .sh (.int (l)), .sh (.int 0)]:=fun g=>by
   subst hz
   simp_arith [evs,Sl.any,ne]
  rw [b_4 (q5 _),if_pos hz];exact fin _ _
 ·have q5:∀g:FS,sIf [4] (eTest (eOp neD (eVar 4) (eC (.int 0)))) g sNil [.lt (a_7 p s m T kds), .sh d, .sh (.int v), .sh (.tup (zi [pA d s p,pB d s p])), .sh (.int (l)), .sh (.int 0)]=g [.lt (a_7 p s m T kds), .sh d, .sh (.int v), .sh (.tup (zi [pA d s p,pB d s p])), .sh (.int (l)), .sh (.int 0)]:=fun g=>by
   simp_arith [evs,Sl.any,ne,decide_eq_false hz]
  have mc:ak_7 [0] (c_7 "ways_without" 1 [("Living",b_2)] (eVar 0) (aCons (eVar 1) aNil)) h_0 [.lt (a_7 p s m T kds), .sh d, .sh (.int v), .sh (.tup (zi [pA d s p,pB d s p])), .sh (.int (l)), .sh (.int 0)]= .ok [.dic wk]:=by
   unfold ak_7;rw [aj_7,if_pos rfl,cq_3,w_6];rw [show vsh [.sh d, .sh (.int v), .sh (.tup (zi [pA d s p,pB d s p])), .sh (.int l), .sh (.int 0)]= [some d,some (.int v),some (.tup (zi [pA d s p,pB d s p])),some (.int l),some (.int 0)] from rfl];rw [e5];simp only [pw,if_true,h_0,dw]
  have mg:a_8 (eVar 3) (a_8 (eVar 4) (ak_7 [0] (c_7 "ways_without" 1 [("Living",b_2)] (eVar 0) (aCons (eVar 1) aNil)) h_0)) [.lt (a_7 p s m T kds), .sh d, .sh (.int v), .sh (.tup (zi [pA d s p,pB d s p])), .sh (.int (l)), .sh (.int 0)]= .ok [.tup (zi [pA d s p,pB d s p]), .int (l), .dic wk]:=by
   show(match(match ak_7 [0] (c_7 "ways_without" 1 [("Living",b_2)] (eVar 0) (aCons (eVar 1) aNil)) h_0 [.lt (a_7 p s m T kds), .sh d, .sh (.int v), .sh (.tup (zi [pA d s p,pB d s p])), .sh (.int l), .sh (.int 0)] with| .ok ds=>R.ok (D.int l::ds)| .ex x=> .ex x| .no=> .no) with| .ok ds=>R.ok (D.tup (zi [pA d s p,pB d s p])::ds)| .ex x=> .ex x| .no=> .no)=_;rw [mc]
  have k:=t_5 (n:=3) (M:=g_5) (mn:= "mend") (by decide +kernel) mg rfl;rw [db_2 z f1 f2] at k;have q6:l_9 5 (d_5 [1,3,4] (m_0 0 3 "mend" "Living" g_5 (a_8 (eVar 3) (a_8 (eVar 4) (ak_7 [0] (c_7 "ways_without" 1 [("Living",b_2)] (eVar 0) (aCons (eVar 1) aNil)) h_0))))) [.lt (a_7 p s m T kds), .sh d, .sh (.int v), .sh (.tup (zi [pA d s p,pB d s p])), .sh (.int (l)), .sh (.int 0)]=(match goR 0 true [.lt (a_7 p s m T kds), .sh d, .sh (.int v), .sh (.tup (zi [pA d s p,pB d s p])), .sh (.int (l)), .sh (.int 0)] (cb_2 p s m (l) T kds (pB d s p) B1 B2) with
   | .ok d Δ1=>Fl.nx (Δ1.set 5 (.sh d))
   | .ex x Δ1=> .ex x Δ1
   | .no=> .no):=by
   unfold l_9 d_5;rw [show gsome [1,3,4] [.lt (a_7 p s m T kds), .sh d, .sh (.int v), .sh (.tup (zi [pA d s p,pB d s p])), .sh (.int (l)), .sh (.int 0)]= [.lt (a_7 p s m T kds), .sh d, .sh (.int v), .sh (.tup (zi [pA d s p,pB d s p])), .sh (.int (l)), .sh (.int 0)] from rfl,k] <;> (generalize goR 0 true _ _=r;cases r <;> rfl)
  rw [if_neg hz];unfold cb_2 at q6
  by_cases hb:pB d s p∈bK B1
  ·rw [if_pos hb] at q6⊢;unfold sSeq;rw [q5,q6];rfl
  ·rw [if_neg hb] at q6⊢
   by_cases hl:B1.length≤B2.length
   ·rw [if_pos hl] at q6⊢;rw [b_4 ((q5 _).trans q6)];exact fin _ _
   ·rw [if_neg hl] at q6⊢;rw [b_4 ((q5 _).trans q6)];exact fin _ _
end
section
variable{kds:List (Key×D)}{ks:List D}{d:D}{v:Int}
theorem KOk.has(h:KOk kds ks)(hd:d_4 d):m_8 kds (kOf d)=true↔d∈ks:=by
 constructor
 ·intro e;unfold m_8 at e;obtain⟨w,e⟩:=Option.isSome_iff_exists.mp e;have:kOf d∈kds.map (·.1):=List.mem_map.mpr ⟨_,az_9 e,rfl⟩;rw [h.eq] at this;obtain⟨x,hx,e⟩:=List.mem_map.mp this
  rwa [←ca_1 (h.key x hx) hd e]
 ·intro hm;obtain⟨w,e,_⟩:=bg_1 (kds:=kds) (k:=kOf d) (by rw [h.eq];exact List.mem_map_of_mem hm);unfold m_8;rw [e];rfl
theorem cr_8(k:Key)(w:D)(hh:m_8 kds k=true):(o_2 kds k w).map (·.1)=kds.map (·.1):=by
 unfold o_2;rw [cb_1,hh,if_pos rfl,List.map_map];refine List.map_congr_left fun q _=> ?_;show(if q.1=k then(q.1,w) else q).1=q.1
 split <;> rfl
theorem db_4{k:Key}{w:D}{q:Key×D}(hq:q∈o_2 kds k w):q∈kds∨q.2=w:=by
 unfold o_2 at hq
 split at hq
 ·obtain⟨y,hy,e⟩:=List.mem_map.mp hq
  split at e
  ·subst e;exact .inr rfl
  ·subst e;exact .inl hy
 ·rcases List.mem_append.mp hq with h|h
  ·exact .inl h
  ·rw [List.mem_singleton.mp h];exact .inr rfl
theorem KOk.put(h:KOk kds ks)(hd:d_4 d)(hl:ks.length < 40):KOk (o_2 kds (kOf d) (.int v)) (if m_8 kds (kOf d)=true then ks else ks ++ [d]):=by
 have hv:∀q∈o_2 kds (kOf d) (.int v),∃n:Int,q.2= .int n:=fun q hq=>by
  rcases db_4 hq with h'|h'
  ·exact h.val q h'
  ·exact⟨v,h'⟩
 cases hh:m_8 kds (kOf d) with
 |true=>
  rw [if_pos rfl];exact⟨h.key,h.nd,(cr_8 _ _ hh).trans h.eq,hv,h.len⟩
 |false=>
  rw [if_neg Bool.false_ne_true];have hn:d∉ks:=fun hm=>by rw [(h.has hd).mpr hm] at hh;cases hh
  refine⟨fun k hk=> ?_, ?_, ?_,hv,by rw [List.length_append];simp only [List.length_cons,List.length_nil];omega⟩
  ·rcases List.mem_append.mp hk with h'|h'
   ·exact h.key k h'
   ·rw [List.mem_singleton.mp h'];exact hd
  ·refine List.nodup_append.mpr ⟨h.nd,by simp,fun a ha b hb e=> ?_⟩;rw [List.mem_singleton.mp hb] at e;subst e;exact hn ha
  ·rw [bo_2 hh,List.map_append,List.map_append,h.eq];rfl
theorem KOk.drop(h:KOk kds ks):KOk (n_2 kds (kOf d)) (ks.filter fun x=>decide (kOf x≠kOf d)):=by
 refine⟨fun k hk=>h.key k (List.mem_filter.mp hk).1,h.nd.filter _, ?_,fun q hq=>h.val q (List.mem_filter.mp hq).1,Nat.le_trans (List.length_filter_le _ _) h.len⟩;have e:=congrArg (List.filter fun x=>decide (x≠kOf d)) h.eq;rw [List.filter_map,List.filter_map] at e;exact e
end
section
variable{p s m:Int}{T:List Int}{kds:List (Key×D)}{ks:List D}{d:D}{v:Int}
def putS:RR→RR
 | .ex _ t=> .ok (.str "stuck") t
 |r=>r
theorem bu_5{t:Tn}{r:RR}(e:m_0 0 2 "put" "Living" c_3 (a_8 (eVar 1) (a_8 (eVar 2) h_0)) [.lt t, .sh d, .sh (.int v), .no]=goR 0 true [.lt t, .sh d, .sh (.int v), .no] r)(hr:(∃c t',r= .ok (.int c) t')∨∃t',r= .ex at_2 t'):k_8 t [d, .int v]=putS r:=by
 unfold k_8 m_3 az_2;rw [show n_8 4 t [d, .int v]= [.lt t, .sh d, .sh (.int v), .no] from rfl];have q0:p_9 [.lt t, .sh d, .sh (.int v), .no]=(match goR 0 true [.lt t, .sh d, .sh (.int v), .no] r with
   | .ok d Δ1=>Fl.nx (Δ1.set 3 (.sh d))
   | .ex x Δ1=> .ex x Δ1
   | .no=> .no):=by
  unfold p_9 l_9 d_5;rw [show gsome [1,2] [.lt t, .sh d, .sh (.int v), .no]= [.lt t, .sh d, .sh (.int v), .no] from rfl,e] <;> (generalize goR 0 true _ _=r;cases r <;> rfl)
 rcases hr with⟨c,t',rfl⟩|⟨t',rfl⟩
 ·have q1:ac_6 p_9 [⟨none, [("NoKey",false),("NoSuch",false),("NoValue",false),("Stuck",true)],z_6⟩] [.lt t, .sh d, .sh (.int v), .no]= .nx [.lt t', .sh d, .sh (.int v), .sh (.int c)]:=by
   unfold ac_6;rw [q0];rfl
  rw [b_4 q1];rfl
 ·have q1:ac_6 p_9 [⟨none, [("NoKey",false),("NoSuch",false),("NoValue",false),("Stuck",true)],z_6⟩] [.lt t, .sh d, .sh (.int v), .no]= .nx [.lt t', .sh d, .sh (.int v), .sh (.str "stuck")]:=by
   unfold ac_6;rw [q0];rfl
  rw [b_4 q1];rfl
theorem cb_3(B1 B2:Bs):(∃(c:Int) (T':List Int),T'.length=T.length∧putR p s m v T kds d B1 B2= .ok (.int c) (a_7 p s m T' (o_2 kds (kOf d) (.int v))))∨putR p s m v T kds d B1 B2= .ex at_2 (a_7 p s m T kds):=by
 unfold putR
 split
 ·exact .inl ⟨_,_,rfl,rfl⟩
 ·split
  ·exact .inr rfl
  ·split
   ·exact .inl ⟨_,_,ab_6 _ _ _ _ _ _,rfl⟩
   ·exact .inl ⟨_,_,ab_6 _ _ _ _ _ _,rfl⟩
theorem bu_6(z:Szs p s m T)(h:KOk kds ks)(hd:d_4 d)(v0:0≤v)(v1:v < m):∃B1 B2,Srch (nbr (l_0 ks d s p)) (pA d s p) (2 * p).toNat B1∧Srch (nbr (l_0 ks d s p)) (pB d s p) (2 * p).toNat B2∧k_8 (a_7 p s m T kds) [d, .int v]=putS (putR p s m v T kds d B1 B2):=by
 obtain⟨B1,B2,s1,s2,e⟩:=dk_9 z h hd v0 v1;refine⟨B1,B2,s1,s2,bu_5 ?_ ?_⟩
 ·have:=t_5 (n:=2) (p:=p) (s:=s) (m:=m) (T:=T) (kds:=kds) (M:=c_3) (ga:=a_8 (eVar 1) (a_8 (eVar 2) h_0)) (Δ:= [.sh d, .sh (.int v), .no]) (ds:= [d, .int v]) (mn:= "put") (by decide +kernel) rfl rfl;rw [e] at this;exact this
 ·rcases cb_3 (p:=p) (s:=s) (m:=m) (T:=T) (kds:=kds) (d:=d) (v:=v) B1 B2 with⟨c,T',_,e⟩|e
  ·exact .inl ⟨c,_,e⟩
  ·exact .inr ⟨_,e⟩
theorem db_5(ns:List Int)(k:Int)(hk0:0≤k)(hk1:k≤100)(hn:ns.length≤300)(h:KOk kds ks)(m0:2≤m)(m1:m≤1000000001):∃(b:Int) (d:D) (v:Int),n_1 [.lst (ns.map .int), .int 3, .int k, .dic kds, .tup [.int p, .int s, .int m]]= .ok (.sh (.tup [.int b,d, .int v]))∧(b=0∨b=1)∧d_4 d∧0≤v∧v < m:=by
 have mx:0 < max 1 ((ns.length:Int) - 3):=by omega
 have r0:=Int.emod_nonneg k (show max 1 ((ns.length:Int) - 3)≠0 by omega);have r1:=Int.emod_lt_of_pos k mx;obtain⟨c0,er⟩:=cp_4 ns (3 + k % max 1 ((ns.length:Int) - 3)) (by omega) (by omega);have ec:=ao_1 ns 0 (by decide) (by decide);have q1:sSet 5 [0,1,2] (eFn 2 l_8 (aCons (eVar 0) (aCons (eOp g_7 (eVar 1) (eOp d_6 (eVar 2) (eCall maxD (aCons (eC (.int 1)) (aCons (eOp subD (eCall lenD (aCons (eVar 0) aNil)) (eVar 1)) aNil))))) aNil))) (start3 10 [.lst (ns.map .int), .int 3, .int k, .dic kds, .tup [.int p, .int s, .int m]])= .nx [.sh (.lst (ns.map .int)), .sh (.int 3), .sh (.int k), .sh (.dic kds), .sh (.tup [.int p, .int s, .int m]), .sh (.int c0), .no, .no, .no, .no]:=by
  simp_arith [evs,t_2,List.length_map,y_4,bs_4,c_2 mx,l_4,er]
 have q2:∃c:Int,sIf [0] (eTest (eOp eqD (eOp d_6 (eFn 2 i_3 (aCons (eVar 0) (aCons (eC (.int 0)) aNil))) (eC (.int 2))) (eC (.int 1)))) (sSet 5 [2,5] (eFn 2 c_8 (aCons (eOp d_6 (eVar 5) (eC (.int 2147483647))) (aCons (eVar 2) aNil)))) sNil [.sh (.lst (ns.map .int)), .sh (.int 3), .sh (.int k), .sh (.dic kds), .sh (.tup [.int p, .int s, .int m]), .sh (.int c0), .no, .no, .no, .no]= .nx [.sh (.lst (ns.map .int)), .sh (.int 3), .sh (.int k), .sh (.dic kds), .sh (.tup [.int p, .int s, .int m]), .sh (.int c), .no, .no, .no, .no]:=by
  by_cases hz:al_4 ns 0 % 2=1
  ·exact⟨mixZ (c0 % 2147483647) k,by simp_arith [evs,ec,c_2 (show(0:Int) < 2 by decide),e_9,hz,decide_true,c_2 (show(0:Int) < 2147483647 by decide),u_1 _ k (by omega) (by omega)]⟩
  ·exact⟨c0,by simp_arith [evs,ec,c_2 (show(0:Int) < 2 by decide),e_9,hz,decide_false]⟩
 obtain⟨c,q2⟩:=q2;have ix2:ixD (.tup [.int p, .int s, .int m]) (.int 2)= .ok (.sh (.int m)):=rfl;have hm:0 < m:=by omega
 have dm:∀x:Int,n_4 (.int x) (.int m)= .ok (.sh (.int (x / m))):=fun x=>m_9 hm (by omega);obtain⟨kd,hkd,ekd⟩:=cp_7 (c / 8 / m);have w0:=Int.emod_nonneg c (show(8:Int)≠0 by decide);have w1:=Int.emod_lt_of_pos c (show(0:Int) < 8 by decide);obtain⟨b,hb,eb⟩:=ah_0 (ds:= [.int 0, .int 0, .int 0, .int 0, .int 0, .int 0, .int 1, .int 1]) (i:=c % 8) w0 w1;have hb:b= .int 0∨b= .int 1:=by
  simp only [List.mem_cons,List.not_mem_nil,or_false] at hb;rcases hb with h|h|h|h|h|h|h|h <;> simp [h]
 have q6:∃k',d_4 k'∧sIf [3,6] (tAndF (eTest (eOp gtD (eVar 6) (eC (.int 4)))) (eTest (eOp ag_5 (eVar 3) u_7))) (sSet 9 [3,4,7] (eOp ixD (eKL (eVar 3)) (eOp d_6 (eOp n_4 (eVar 7) (eOp ixD (eVar 4) (eC (.int 2)))) (eCall u_8 (aCons (eVar 3) aNil))))) sNil [.sh (.lst (ns.map .int)), .sh (.int 3), .sh (.int k), .sh (.dic kds), .sh (.tup [.int p, .int s, .int m]), .sh (.int c), .sh (.int (c % 8)), .sh (.int (c / 8)), .sh (.int (c / 8 % m)), .sh kd]= .nx [.sh (.lst (ns.map .int)), .sh (.int 3), .sh (.int k), .sh (.dic kds), .sh (.tup [.int p, .int s, .int m]), .sh (.int c), .sh (.int (c % 8)), .sh (.int (c / 8)), .sh (.int (c / 8 % m)), .sh k']:=by
  have ht:tAndF (eTest (eOp gtD (eVar 6) (eC (.int 4)))) (eTest (eOp ag_5 (eVar 3) u_7)) [some (.lst (ns.map .int)),some (.int 3),some (.int k),some (.dic kds),some (.tup [.int p, .int s, .int m]),some (.int c),some (.int (c % 8)),some (.int (c / 8)),some (.int (c / 8 % m)),some kd]= .ok (decide (4 < c % 8) && !kds.isEmpty):=by
   have h1:ag_5 (.dic kds) (.dic [])= .ok (.sh (.bl (!kds.isEmpty))):=rfl
   simp_arith [tAndF,eTest,eOp,eVar,eC,u_7,evs,h1,dc_2]
   cases decide (4 < c % 8) <;> rfl
  by_cases hc:(decide (4 < c % 8) && !kds.isEmpty)=true
  ·have hne:0 < kds.length:=by
    cases kds with
    |nil=>simp at hc
    |cons a b=>simp
   have zk:=h.length;obtain⟨k',hm',ek⟩:=ah_0 (ds:=ks) (i:=c / 8 / m % (kds.length:Int)) (Int.emod_nonneg _ (by omega)) (by have:=Int.emod_lt_of_pos (c / 8 / m) (show(0:Int) < (kds.length:Int) by omega);omega);refine⟨k',h.key k' hm', ?_⟩;unfold sIf;rw [show vall [.sh (.lst (ns.map .int)), .sh (.int 3), .sh (.int k), .sh (.dic kds), .sh (.tup [.int p, .int s, .int m]), .sh (.int c), .sh (.int (c % 8)), .sh (.int (c / 8)), .sh (.int (c / 8 % m)), .sh kd]= [some (.lst (ns.map .int)),some (.int 3),some (.int k),some (.dic kds),some (.tup [.int p, .int s, .int m]),some (.int c),some (.int (c % 8)),some (.int (c / 8)),some (.int (c / 8 % m)),some kd] from rfl,ht,hc];simp only [if_true];have hkl:eKL (eVar 3) [some (.lst (ns.map .int)),some (.int 3),some (.int k),some (.dic kds),some (.tup [.int p, .int s, .int m]),some (.int c),some (.int (c % 8)),some (.int (c / 8)),some (.int (c / 8 % m)),some kd]= .ok (.ow (.lst ks)):=by
    show R.ok (W.ow (.lst (kds.map fun p=>kD p.1)))=_;rw [h.ds]
   simp_arith [evs,Sl.pub,hkl,u_8,ix2,dm,c_2 (show(0:Int) < (kds.length:Int) by omega),n_6 ek]
  ·refine⟨kd,hkd, ?_⟩;unfold sIf;rw [show vall [.sh (.lst (ns.map .int)), .sh (.int 3), .sh (.int k), .sh (.dic kds), .sh (.tup [.int p, .int s, .int m]), .sh (.int c), .sh (.int (c % 8)), .sh (.int (c / 8)), .sh (.int (c / 8 % m)), .sh kd]= [some (.lst (ns.map .int)),some (.int 3),some (.int k),some (.dic kds),some (.tup [.int p, .int s, .int m]),some (.int c),some (.int (c % 8)),some (.int (c / 8)),some (.int (c / 8 % m)),some kd] from rfl,ht];simp only [hc,Bool.false_eq_true,if_false];rfl
 obtain⟨k',hk',q6⟩:=q6;have q3:sSet 6 [5] (eOp d_6 (eVar 5) (eC (.int 8))) [.sh (.lst (ns.map .int)), .sh (.int 3), .sh (.int k), .sh (.dic kds), .sh (.tup [.int p, .int s, .int m]), .sh (.int c), .no, .no, .no, .no]= .nx [.sh (.lst (ns.map .int)), .sh (.int 3), .sh (.int k), .sh (.dic kds), .sh (.tup [.int p, .int s, .int m]), .sh (.int c), .sh (.int (c % 8)), .no, .no, .no]:=by
  simp_arith [evs,c_2 (show(0:Int) < 8 by decide)]
 have q4:sSet 7 [5] (eOp n_4 (eVar 5) (eC (.int 8))) [.sh (.lst (ns.map .int)), .sh (.int 3), .sh (.int k), .sh (.dic kds), .sh (.tup [.int p, .int s, .int m]), .sh (.int c), .sh (.int (c % 8)), .no, .no, .no]= .nx [.sh (.lst (ns.map .int)), .sh (.int 3), .sh (.int k), .sh (.dic kds), .sh (.tup [.int p, .int s, .int m]), .sh (.int c), .sh (.int (c % 8)), .sh (.int (c / 8)), .no, .no]:=by
  simp_arith [evs,m_9 (i:=c) (show(0:Int) < 8 by decide) (by decide)]
 have q5:sSet 8 [4,7] (eOp d_6 (eVar 7) (eOp ixD (eVar 4) (eC (.int 2)))) [.sh (.lst (ns.map .int)), .sh (.int 3), .sh (.int k), .sh (.dic kds), .sh (.tup [.int p, .int s, .int m]), .sh (.int c), .sh (.int (c % 8)), .sh (.int (c / 8)), .no, .no]= .nx [.sh (.lst (ns.map .int)), .sh (.int 3), .sh (.int k), .sh (.dic kds), .sh (.tup [.int p, .int s, .int m]), .sh (.int c), .sh (.int (c % 8)), .sh (.int (c / 8)), .sh (.int (c / 8 % m)), .no]:=by
  simp_arith [evs,ix2,c_2 hm]
 have q5':sSet 9 [4,7] (eFn 1 j_3 (aCons (eOp n_4 (eVar 7) (eOp ixD (eVar 4) (eC (.int 2)))) aNil)) [.sh (.lst (ns.map .int)), .sh (.int 3), .sh (.int k), .sh (.dic kds), .sh (.tup [.int p, .int s, .int m]), .sh (.int c), .sh (.int (c % 8)), .sh (.int (c / 8)), .sh (.int (c / 8 % m)), .no]= .nx [.sh (.lst (ns.map .int)), .sh (.int 3), .sh (.int k), .sh (.dic kds), .sh (.tup [.int p, .int s, .int m]), .sh (.int c), .sh (.int (c % 8)), .sh (.int (c / 8)), .sh (.int (c / 8 % m)), .sh kd]:=by
  simp_arith [evs,ix2,dm,ekd]
 have v0:=Int.emod_nonneg (c / 8) (show m≠0 by omega);have v1:=Int.emod_lt_of_pos (c / 8) hm;have fin:∀bi:Int,b= .int bi→n_1 [.lst (ns.map .int), .int 3, .int k, .dic kds, .tup [.int p, .int s, .int m]]= .ok (.sh (.tup [.int bi,k', .int (c / 8 % m)])):=fun bi e=>by
  subst e;refine ag_3 ?_;unfold as_6;rw [b_4 q1,b_4 q2,b_4 q3,b_4 q4,b_4 q5,b_4 q5',b_4 q6]
  simp_arith [evs,n_6 eb]
 rcases hb with hb|hb
 ·exact⟨0,k',_,fin 0 hb, .inl rfl,hk',v0,v1⟩
 ·exact⟨1,k',_,fin 1 hb, .inr rfl,hk',v0,v1⟩
end
section
variable{p s m:Int}{T:List Int}{kds:List (Key×D)}{ks:List D}{d:D}{v:Int}
theorem bu_7(h:KOk kds ks):f_2 (a_7 p s m T kds)=true:=by
 have all:∀l:List (Key×D),(∀q∈l,q∈kds)→o_9 (l.map fun p=>(p.1,Tn.sh p.2))=true:=fun l=>by
  induction l with
  |nil=>intro _;simp only [List.map_nil,o_9]
  |cons q l ih=>
   intro hq;obtain⟨n,e⟩:=h.val q (hq q List.mem_cons_self);simp only [List.map_cons,o_9,f_2,e,c_9,ih fun x hx=>hq x (List.mem_cons_of_mem _ hx),Bool.and_self]
 have e:f_2 (Tn.of (.dic kds))=true:=by
  show f_2 (.dic (kds.map fun p=>(p.1,Tn.sh p.2)))=true;simp only [f_2,all kds fun _ h=>h]
 simp only [a_7,f_2,k_9,c_9,s_3,e,Bool.and_self]
variable{nsD sz:D}{k:Int}{a5 a6 a7 a8:Sl}
abbrev stL(nsD sz:D)(t:Tn)(kds:List (Key×D))(k:Int)(a5 a6 a7 a8:Sl):SE:= [.sh nsD, .sh sz, .tr t, .ow (.dic kds), .sh (.int k),a5,a6,a7,a8]
theorem dp_9{n:Nat}{mn:Str}{M:Tn→List D→RR}{ga:SE→R (List D)}{Δ:SE}{ds:List D}(hb:(Δ[2]?).bind Sl.tree=some (a_7 p s m T kds,false))(hm:lN.contains mn=false)(hg:ga Δ= .ok ds)(hl:ds.length=n):m_0 2 n mn "Living" M ga Δ=goR 2 false Δ (M (a_7 p s m T kds) ds):=by
 unfold m_0;rw [hb];unfold a_7;simp only [hm,and_self,if_true,hg,hl]
theorem cr_9{n:Nat}{M:Tn→List D→RR}{ga:SE→R (List D)}{Δ:SE}{ds:List D}(hb:(Δ[2]?).bind Sl.tree=some (a_7 p s m T kds,false))(hg:ga Δ= .ok ds)(hl:ds.length=n):k_2 2 n M ga Δ=goR 2 false Δ (M (a_7 p s m T kds) ds):=by
 unfold k_2;rw [hb];unfold a_7;simp only [hg,hl,if_true]
theorem dl_1:n_7 [3] (stL nsD sz (a_7 p s m T kds) kds k a5 a6 a7 a8)=true:=by
 have h:(Tn.of (.dic kds)).lends=true:=by
  show Tn.lends (.dic (kds.map fun p=>(p.1, .sh p.2)))=true;simp only [Tn.lends,aj_6]
 show(Tn.of (.dic kds)).lends && true=true;rw [h];rfl
theorem cs_0(ns:List Int)(hns:ns.length≤63)(hk0:0≤k)(hk1:k≤30)(z:Szs p s m T)(h:KOk kds ks)(hl:ks.length < 40)(h6:k_3 a6=true)(h7:k_3 a7=true)(h8:k_3 a8=true):
  ∃(T':List Int) (ar:List (Key×D)) (ks':List D) (b5 b6 b7 b8:Sl),ao_0 (stL (.lst (ns.map .int)) (.tup [.int p, .int s, .int m]) (a_7 p s m T kds) kds k a5 a6 a7 a8)= .nx (stL (.lst (ns.map .int)) (.tup [.int p, .int s, .int m]) (a_7 p s m T' ar) ar k b5 b6 b7 b8)∧Szs p s m T'∧KOk ar ks'∧ks'.length≤ks.length + 1∧k_3 b6=true∧k_3 b7=true∧k_3 b8=true:=by
 have pt:=bu_7 (p:=p) (s:=s) (m:=m) (T:=T) h;have pn:c_9 (.lst (ns.map .int))=true:=by simp only [c_9,s_3]
 have ps:c_9 (.tup [.int p, .int s, .int m])=true:=by simp only [c_9,f_1,Bool.and_self]
 obtain⟨c,er⟩:=cp_4 ns (3 + k) (by omega) (by omega);have ref:=da_9 z h (c + k);obtain⟨b,d,v,ed,hb,hd,v0,v1⟩:=db_5 (p:=p) (s:=s) ns k hk0 (by omega) (by omega) h z.m0 z.m1;have hkd:=v_5 hd;obtain⟨B1,B2,_,_,ep⟩:=bu_6 z h hd v0 v1;have em:m_8 kds (kOf d)=true→b_8 (a_7 p s m T kds) [d]= .ok .non (a_7 p s m T (n_2 kds (kOf d))):=cq_7 hd;generalize hnD:D.lst (ns.map .int)=nD at *
 generalize hsz:D.tup [.int p, .int s, .int m]=sz at *
 have q1:sSet 5 [0,4] (eFn 2 l_8 (aCons (eVar 0) (aCons (eOp g_7 (eC (.int 3)) (eVar 4)) aNil))) (stL nD sz (a_7 p s m T kds) kds k a5 a6 a7 a8)= .nx (stL nD sz (a_7 p s m T kds) kds k (.sh (.int c)) a6 a7 a8):=by
  simp_arith [evs,Sl.pub,l_4,er]
 have q2:sIfM (mNot (bl_8 (d_5 [1,4,5] (bn_1 3 (k_2 2 3 e_6 (a_8 (eVar 3) (a_8 (eOp g_7 (eVar 5) (eVar 4)) (a_8 (eVar 1) h_0)))))))) (sRet [] (eC (.bl false))) sNil (stL nD sz (a_7 p s m T kds) kds k (.sh (.int c)) a6 a7 a8)= .nx (stL nD sz (a_7 p s m T kds) kds k (.sh (.int c)) a6 a7 a8):=by
  have g1:=cr_9 (p:=p) (s:=s) (m:=m) (T:=T) (kds:=kds) (n:=3) (M:=e_6) (ga:=a_8 (eVar 3) (a_8 (eOp g_7 (eVar 5) (eVar 4)) (a_8 (eVar 1) h_0))) (Δ:= [.sh nD, .sh sz, .tr (a_7 p s m T kds), .sh (.dic kds), .sh (.int k), .sh (.int c),a6,a7,a8]) (ds:= [.dic kds, .int (c + k),sz]) rfl rfl rfl;rw [ref] at g1;have g2:bn_1 3 (k_2 2 3 e_6 (a_8 (eVar 3) (a_8 (eOp g_7 (eVar 5) (eVar 4)) (a_8 (eVar 1) h_0)))) (stL nD sz (a_7 p s m T kds) kds k (.sh (.int c)) a6 a7 a8)= .ok (.bl true) (stL nD sz (a_7 p s m T kds) kds k (.sh (.int c)) a6 a7 a8):=by
   show(match k_2 2 3 e_6 (a_8 (eVar 3) (a_8 (eOp g_7 (eVar 5) (eVar 4)) (a_8 (eVar 1) h_0))) [.sh nD, .sh sz, .tr (a_7 p s m T kds), .sh (.dic kds), .sh (.int k), .sh (.int c),a6,a7,a8] with
    | .ok d Δ1=>if c_9 d=true∧(Δ1.set 3 .no).all k_3=true∧3 < Δ1.length then FM.ok d (Δ1.set 3 (.ow (.dic kds))) else .no
    |_=> .no)=_
   rw [g1];exact if_pos (c:=c_9 (.bl true)=true∧ [Sl.sh nD, .sh sz, .tr (a_7 p s m T kds), .no, .sh (.int k), .sh (.int c),a6,a7,a8].all k_3=true∧3 < 9) ⟨by simp only [c_9],by
    simp only [List.all_cons,List.all_nil,h6,h7,h8,Bool.and_self,Bool.and_true];simp only [k_3,pn,ps,pt,c_9,Bool.and_self],by decide⟩
  unfold sIfM mNot bl_8 d_5;rw [show gsome [1,4,5] (stL nD sz (a_7 p s m T kds) kds k (.sh (.int c)) a6 a7 a8)=stL nD sz (a_7 p s m T kds) kds k (.sh (.int c)) a6 a7 a8 from rfl,g2];rfl
 have q3:bm_6 (by_9 [6,7,8]) (j_6 [3] (eFn 5 n_1 (aCons (eVar 0) (aCons (eC (.int 3)) (aCons (eVar 4) (aCons (eVar 3) (aCons (eVar 1) aNil))))))) (stL nD sz (a_7 p s m T kds) kds k (.sh (.int c)) a6 a7 a8)= .nx (stL nD sz (a_7 p s m T kds) kds k (.sh (.int c)) (.sh (.int b)) (.sh d) (.sh (.int v))):=by
  have g1:eFn 5 n_1 (aCons (eVar 0) (aCons (eC (.int 3)) (aCons (eVar 4) (aCons (eVar 3) (aCons (eVar 1) aNil))))) [some nD,some sz,none,some (.dic kds),some (.int k),some (.int c),a6.pub,a7.pub,a8.pub]= .ok (.sh (.tup [.int b,d, .int v])):=by
   simp_arith [evs,ed]
  have pd:u_0 (.sh (.tup [.int b,d, .int v]))=true:=by
   show c_9 (.tup [.int b,d, .int v])=true;simp only [c_9,f_1,ab_5 hd,Bool.and_self]
  unfold bm_6 j_6;rw [dl_1,if_pos rfl,show vsel [3] (stL nD sz (a_7 p s m T kds) kds k (.sh (.int c)) a6 a7 a8)= [some nD,some sz,none,some (.dic kds),some (.int k),some (.int c),a6.pub,a7.pub,a8.pub] from rfl,g1];simp only [pd,if_true];rfl
 unfold ao_0;rw [b_4 q1,b_4 q2,b_4 q3];have ht:∀g1 g2:FS,sIf [3,6,7] (tAndF (eTest (eOp eqD (eVar 6) (eC (.int 1)))) (eTest (eOp (inK false) (eVar 7) (eVar 3)))) g1 g2 (stL nD sz (a_7 p s m T kds) kds k (.sh (.int c)) (.sh (.int b)) (.sh d) (.sh (.int v)))=if b=1∧m_8 kds (kOf d)=true then g1 (stL nD sz (a_7 p s m T kds) kds k (.sh (.int c)) (.sh (.int b)) (.sh d) (.sh (.int v))) else g2 (stL nD sz (a_7 p s m T kds) kds k (.sh (.int c)) (.sh (.int b)) (.sh d) (.sh (.int v))):=fun g1 g2=>by
  rcases hb with rfl|rfl
  ·have:¬(0:Int)=1:=by decide
   simp_arith [evs,Sl.any,e_9,this,false_and]
  ·cases hh:m_8 kds (kOf d) with
   |true=>simp_arith [evs,Sl.any,e_9,inK,hkd,hh,if_true,and_self]
   |false=>simp_arith [evs,Sl.any,e_9,inK,hkd,hh,if_true,true_and]
 rw [ht];have pk:=ab_5 hd;have cq:k_3 (.sh (.int b))=true:=by simp only [k_3,c_9]
 have cf:k_3 (.sh (.int v))=true:=by simp only [k_3,c_9]
 by_cases hc:b=1∧m_8 kds (kOf d)=true
 ·rw [if_pos hc];have g1:=dp_9 (p:=p) (s:=s) (m:=m) (T:=T) (kds:=kds) (n:=1) (M:=b_8) (mn:= "drop") (ga:=a_8 (eVar 7) h_0) (Δ:=stL nD sz (a_7 p s m T kds) kds k (.sh (.int c)) (.sh (.int b)) (.sh d) (.sh (.int v))) (ds:= [d]) rfl (by decide +kernel) rfl rfl;rw [em hc.2] at g1;have q4:k_1 (d_5 [7] (m_0 2 1 "drop" "Living" b_8 (a_8 (eVar 7) h_0))) (stL nD sz (a_7 p s m T kds) kds k (.sh (.int c)) (.sh (.int b)) (.sh d) (.sh (.int v)))= .nx (stL nD sz (a_7 p s m T (n_2 kds (kOf d))) kds k (.sh (.int c)) (.sh (.int b)) (.sh d) (.sh (.int v))):=by
   unfold k_1 d_5;rw [show gsome [7] (stL nD sz (a_7 p s m T kds) kds k (.sh (.int c)) (.sh (.int b)) (.sh d) (.sh (.int v)))=stL nD sz (a_7 p s m T kds) kds k (.sh (.int c)) (.sh (.int b)) (.sh d) (.sh (.int v)) from rfl,g1];rfl
  have q5:bz_4 3 (eVar 7) (stL nD sz (a_7 p s m T (n_2 kds (kOf d))) kds k (.sh (.int c)) (.sh (.int b)) (.sh d) (.sh (.int v)))= .nx (stL nD sz (a_7 p s m T (n_2 kds (kOf d))) (n_2 kds (kOf d)) k (.sh (.int c)) (.sh (.int b)) (.sh d) (.sh (.int v))):=by
   show(match q_4 d with
    |some k'=>if(f_0 kds k').isSome=true then Fl.nx (stL nD sz (a_7 p s m T (n_2 kds (kOf d))) (n_2 kds k') k (.sh (.int c)) (.sh (.int b)) (.sh d) (.sh (.int v))) else .no
    |none=> .no)=_
   rw [hkd];have:=hc.2;unfold m_8 at this;simp only [this,if_true]
  exact⟨T,_,_,_,_,_,_,(b_4 q4).trans q5,z,h.drop,Nat.le_trans (List.length_filter_le _ _) (Nat.le_succ _),cq,pk,cf⟩
 ·rw [if_neg hc];have g1:=cr_9 (p:=p) (s:=s) (m:=m) (T:=T) (kds:=kds) (n:=2) (M:=k_8) (ga:=a_8 (eVar 7) (a_8 (eVar 8) h_0)) (Δ:=stL nD sz (a_7 p s m T kds) kds k (.sh (.int c)) (.sh (.int b)) (.sh d) (.sh (.int v))) (ds:= [d, .int v]) rfl rfl rfl;rw [ep] at g1;have g2:∀(x:D) (t':Tn) (y:Bool),putS (putR p s m v T kds d B1 B2)= .ok x t'→neD x (.str "stuck")= .ok (.sh (.bl y))→sIfM (mOp neD (d_5 [7,8] (k_2 2 2 k_8 (a_8 (eVar 7) (a_8 (eVar 8) h_0)))) (h_6 [] (eC (.str "stuck")))) (ag_1 3 [8] (eVar 7) (eVar 8)) sNil (stL nD sz (a_7 p s m T kds) kds k (.sh (.int c)) (.sh (.int b)) (.sh d) (.sh (.int v)))=if y=true then ag_1 3 [8] (eVar 7) (eVar 8) (stL nD sz t' kds k (.sh (.int c)) (.sh (.int b)) (.sh d) (.sh (.int v))) else .nx (stL nD sz t' kds k (.sh (.int c)) (.sh (.int b)) (.sh d) (.sh (.int v))):=fun x t' y e1 e2=>by
   rw [e1] at g1;have g3:d_5 [7,8] (k_2 2 2 k_8 (a_8 (eVar 7) (a_8 (eVar 8) h_0))) (stL nD sz (a_7 p s m T kds) kds k (.sh (.int c)) (.sh (.int b)) (.sh d) (.sh (.int v)))= .ok x (stL nD sz t' kds k (.sh (.int c)) (.sh (.int b)) (.sh d) (.sh (.int v))):=g1;have g4:h_6 [] (eC (.str "stuck")) (stL nD sz t' kds k (.sh (.int c)) (.sh (.int b)) (.sh d) (.sh (.int v)))= .ok (.str "stuck") (stL nD sz t' kds k (.sh (.int c)) (.sh (.int b)) (.sh d) (.sh (.int v))):=rfl;unfold sIfM mOp;simp only [g3,g4,e2,W.d_sh];rfl
  rcases cb_3 (p:=p) (s:=s) (m:=m) (T:=T) (kds:=kds) (d:=d) (v:=v) B1 B2 with⟨c',T',tl,e⟩|e
  ·have ne:neD (.int c') (.str "stuck")= .ok (.sh (.bl true)):=by
    show(if eqC (.int c') (.str "stuck")=true then R.ok (W.sh (.bl (!eqvD (.int c') (.str "stuck")))) else .no)=_;have h1:PyData.canLay0 (o_1 (.str "stuck"))=true:=by decide +kernel
    have h2:PyData.canLay0 (o_1 (.int c'))=true:=rfl;have h3:PyData.depth (o_1 (.int c'))=0:=rfl;rw [if_pos (by unfold eqC;rw [h1,h2,h3];rfl)];rfl
   have g3:=g2 (.int c') _ true (by rw [e];rfl) ne;rw [if_pos rfl] at g3;have q5:ag_1 3 [8] (eVar 7) (eVar 8) (stL nD sz (a_7 p s m T' (o_2 kds (kOf d) (.int v))) kds k (.sh (.int c)) (.sh (.int b)) (.sh d) (.sh (.int v)))= .nx (stL nD sz (a_7 p s m T' (o_2 kds (kOf d) (.int v))) (o_2 kds (kOf d) (.int v)) k (.sh (.int c)) (.sh (.int b)) (.sh d) (.sh (.int v))):=by
    show(match q_4 d with
     |some k'=>if kds.length < 16777216 then Fl.nx (stL nD sz (a_7 p s m T' (o_2 kds (kOf d) (.int v))) (o_2 kds k' (.int v)) k (.sh (.int c)) (.sh (.int b)) (.sh d) (.sh (.int v))) else .no
     |none=> .no)=_
    rw [hkd];have:kds.length < 16777216:=by rw [h.length];omega
    simp only [this,if_true]
   refine⟨T',_,_,_,_,_,_,g3.trans q5,⟨z.p0,z.p1,z.s0,z.s1,z.m0,z.m1,by rw [tl];exact z.tl⟩,h.put hd hl, ?_,cq,pk,cf⟩
   split
   ·omega
   ·rw [List.length_append];simp only [List.length_cons,List.length_nil];omega
  ·have ne:neD (.str "stuck") (.str "stuck")= .ok (.sh (.bl false)):=by rw [by_0];simp
   have g3:=g2 (.str "stuck") _ false (by rw [e];rfl) ne;rw [if_neg Bool.false_ne_true] at g3;exact⟨T,kds,ks,_,_,_,_,g3,z,h,Nat.le_succ _,cq,pk,cf⟩
end
theorem cs_1{n k:Nat}{d:D}(e:(q_7 0 n)[k]? =some d):d= .int (k:Int)∧k < n:=by
 unfold q_7 at e;rw [List.getElem?_map] at e
 by_cases hk:k < n
 ·rw [List.getElem?_range hk] at e;simp only [Option.map_some,Int.zero_add,Option.some.injEq] at e;exact⟨e.symm,hk⟩
 ·rw [List.getElem?_eq_none (by simp;omega)] at e;cases e
theorem db_6(ns:List Int)(hn:ns.length≤63):∃z:Int,o_6 [.lst (ns.map .int), .int 3, .int 30]= .ok (.sh (.int z))∧z≤30:=by
 have ec:=ao_1 ns 2 (by decide) (by decide);refine⟨min 30 (max (max 0 ((ns.length:Int) - 3)) (al_4 ns 2 % 31)), ?_,by omega⟩
 simp_arith [o_6,as_4,evs,t_2,List.length_map,y_4,l_4,bs_4,dh_8,c_2 (show(0:Int) < 31 by decide),ec,show(3:Int) - 1=2 from rfl,show(30:Int) + 1=31 from rfl]
theorem cs_2(ns:List Int)(hn:ns.length≤63):∃v,dc_8 [.lst (ns.map .int)]= .ok v∧v.d= .bl true:=by
 obtain⟨p,s,m,es,p0,p1,s0,s1,m0,m1⟩:=cp_6 ns;have ei:=db_0 (s:=s) (m:=m) (show 0 < p by omega) p1;obtain⟨w,ew,hw⟩:=db_6 ns hn;have z0:Szs p s m (List.replicate (2 * p).toNat 0):=⟨by omega,p1,s0,by omega,m0,m1,by rw [List.length_replicate];omega⟩;have k0:KOk [] []:=⟨fun _ h=>(List.not_mem_nil h).elim,List.nodup_nil,rfl,fun _ h=>(List.not_mem_nil h).elim,by decide⟩
 let sz:D:= .tup [.int p, .int s, .int m]
 let I:Nat→SE→Prop:=fun i Δ=>∃(T:List Int) (kds:List (Key×D)) (ks:List D) (a4 a5 a6 a7 a8:Sl),Δ= [.sh (.lst (ns.map .int)), .sh sz, .tr (a_7 p s m T kds), .ow (.dic kds),a4,a5,a6,a7,a8]∧Szs p s m T∧KOk kds ks∧ks.length≤i∧k_3 a6=true∧k_3 a7=true∧k_3 a8=true
 obtain⟨n,hn30,en⟩:∃n:Nat,n≤30∧max 1 w=(n:Int):=⟨(max 1 w).toNat,by omega,by omega⟩;obtain⟨Δ',e,T,kds,ks,a4,a5,a6,a7,a8,rfl,z,h,_⟩:=aa_7 (gV 4) ao_0 I (ds:=q_7 0 n) (Δ:= [.sh (.lst (ns.map .int)), .sh sz, .tr (a_7 p s m (List.replicate (2 * p).toNat 0) []), .ow (.dic []), .no, .no, .no, .no, .no])
  ⟨_, [], [], .no, .no, .no, .no, .no,rfl,z0,k0,Nat.le_refl _,rfl,rfl,rfl⟩ (fun i d Δ hd ⟨T,kds,ks,a4,a5,a6,a7,a8,e,z,h,hl,h6,h7,h8⟩=>by
   subst e;obtain⟨rfl,hi⟩:=cs_1 hd;obtain⟨T',ar,ks',b5,b6,b7,b8,e,z',h',l',g6,g7,g8⟩:=cs_0 (k:=(i:Int)) (a5:=a5) ns hn (by omega) (by omega) z h (by omega) h6 h7 h8;exact⟨_,rfl,_, .inl e,T',ar,ks',_,b5,b6,b7,b8,rfl,z',h',by omega,g6,g7,g8⟩)
 have t1:bf_2 (start3 9 [.lst (ns.map .int)])= .nx [.sh (.lst (ns.map .int)), .sh sz, .no, .no, .no, .no, .no, .no, .no]:=by
  simp_arith [bf_2,evs,es]
  rfl
 have t2:bf_3 [.sh (.lst (ns.map .int)), .sh sz, .no, .no, .no, .no, .no, .no, .no]= .nx [.sh (.lst (ns.map .int)), .sh sz, .tr (a_7 p s m (List.replicate (2 * p).toNat 0) []), .no, .no, .no, .no, .no, .no]:=by
  have i0:ixD sz (.int 0)= .ok (.sh (.int p)):=rfl;have i1:ixD sz (.int 1)= .ok (.sh (.int s)):=rfl;have i2:ixD sz (.int 2)= .ok (.sh (.int m)):=rfl
  simp_arith [bf_3,evs,co_3,i0,i1,i2,ei]
  rfl
 have t3:bz_9 [.sh (.lst (ns.map .int)), .sh sz, .tr (a_7 p s m (List.replicate (2 * p).toNat 0) []), .no, .no, .no, .no, .no, .no]= .nx [.sh (.lst (ns.map .int)), .sh sz, .tr (a_7 p s m (List.replicate (2 * p).toNat 0) []), .ow (.dic []), .no, .no, .no, .no, .no]:=rfl;have t4:bf_4 [.sh (.lst (ns.map .int)), .sh sz, .tr (a_7 p s m (List.replicate (2 * p).toNat 0) []), .ow (.dic []), .no, .no, .no, .no, .no]= .nx [.sh (.lst (ns.map .int)), .sh sz, .tr (a_7 p s m T kds), .ow (.dic kds),a4,a5,a6,a7,a8]:=by
  have hi:iArgs rng1 (aCons (eCall maxD (aCons (eC (.int 1)) (aCons (eFn 3 o_6 (aCons (eVar 0) (aCons (eC (.int 3)) (aCons (eC (.int 30)) aNil)))) aNil))) aNil) (vsh [.sh (.lst (ns.map .int)), .sh sz, .tr (a_7 p s m (List.replicate (2 * p).toNat 0) []), .ow (.dic []), .no, .no, .no, .no, .no])= .ok (q_7 0 n):=by
   simp_arith [evs,Sl.pub,ew,bs_4,en,bd_4 (show(-4611686018427387903:Int)≤(n:Int) by omega) (by omega),Int.toNat_natCast]
  unfold bf_4 sFor;rw [hi];exact e
 have t5:bf_5 [.sh (.lst (ns.map .int)), .sh sz, .tr (a_7 p s m T kds), .ow (.dic kds),a4,a5,a6,a7,a8]= .rt (.sh (.bl true)):=by
  have hk:c_7 "kept" 0 [("Living",c_0)] (eVar 2) aNil [some (.lst (ns.map .int)),some sz,some (e_5 p s m T kds),some (.dic kds),a4.any,a5.any,a6.any,a7.any,a8.any]= .ok (.ow (.lst (al_5 kds ks))):=(met0 rfl (by decide +kernel)).trans (ca_5 h);have hq:eqD (.int (kds.length:Int)) (.int (kds.length:Int))= .ok (.sh (.bl true)):=by rw [e_9];simp
  have hv:vall [.sh (.lst (ns.map .int)), .sh sz, .tr (a_7 p s m T kds), .ow (.dic kds),a4,a5,a6,a7,a8]= [some (.lst (ns.map .int)),some sz,some (e_5 p s m T kds),some (.dic kds),a4.any,a5.any,a6.any,a7.any,a8.any]:=by rw [←w_6];rfl
  unfold bf_5 sRet;rw [hv]
  simp_arith [evs,hk,t_2,cr_0 h,u_8,hq]
 refine⟨.sh (.bl true),ag_3 ?_,rfl⟩;unfold dc_7;rw [b_4 t1,b_4 t2,b_4 t3,b_4 t4,t5]
end My
set_option maxHeartbeats 20000000
namespace My
open PySem PyProof.Rows L2 L3
def top(i:Nat):Stmt:=PySem.Challenge.pw_lodge_k74_living_refused.main.body.getD i (.Pass ⟨0,0,0,0⟩)
def aj_8:Stmt→List Stmt
 | .ClassDef (body:=b) .. =>b
 |_=> []
def inC(i j:Nat):Stmt:=(aj_8 (top i)).getD j (.Pass ⟨0,0,0,0⟩)
section
variable{P:Program}{w:World}{K:Frag}{mg:Str→Option Value}{base:Heap}{f:Addr}{fd:FuncData}
abbrev TF(c:Bool)(x:Str)(k:Nat)(ps:List Str)(F:List D→R W)(P:Program)(w:World)(K:Frag)(mg:Str→Option Value)(base:Heap):Prop:=FnD P w K mg base c x k ps F
abbrev ba_1:=TF true "_law_mix" 1 ["_law_cell_here", "_law_k"] c_8
abbrev at_3:=TF true "_law_cell" 2 ["_law_script", "_law_k"] i_3
abbrev al_6:=TF true "_law_sizes" 3 ["_law_script", "_law_most"] p_7
abbrev at_4:=TF true "_law_many" 3 ["_law_script", "_law_start", "_law_most"] o_6
abbrev ba_2:=TF true "_law_raw" 3 ["_law_script", "_law_k"] l_8
abbrev at_5:=TF true "_law_text" 1 ["_law_cell_here"] n_0
abbrev ba_3:=TF true "_law_key" 2 ["_law_cell_here"] j_3
abbrev at_6:=TF true "_law_deed" 4 ["_law_script", "_law_start", "_law_k", "_law_kept", "_law_sizes_here"] n_1
abbrev x_5:=TF true "_law_bad_value" 1 ["_law_cell_here", "_law_modulus"] e_2
abbrev ah_5:=TF true "_law_no_key" 2 ["_law_cell_here"] f_5
abbrev al_7:=TF false "_law_alone" 1 ["_law_error"] p_8
abbrev ad_5:=TF true "is_key_text" 1 ["text"] g_4
abbrev bo_4:=TF true "is_key" 2 ["thing"] m_4
abbrev cb_4:=TF true "worth" 1 ["text"] ag_7
abbrev cb_5:=TF true "stamp" 3 ["key"] i_8
abbrev at_7:=TF true "is_below" 1 ["number", "limit"] h_1
abbrev at_8:=TF true "steps_to" 1 ["start", "ways"] i_4
abbrev al_8:=TF true "remainder" 1 ["number", "modulus"] n_3
abbrev cb_6:=TF true "mixed" 1 ["number", "salt", "size"] ag_8
abbrev al_9:=TF true "places_of" 4 ["key", "salt", "kind", "part"] l_7
abbrev bo_5:=TF true "summed" 2 ["table", "places", "modulus"] z_4
abbrev ba_4:=TF true "ways_at" 1 ["places_by_key"] ab_1
abbrev t_6:=TF true "keys_on_the_way" 1 ["place", "steps"] o_0
def bn1:= @Fun.binds1
def bn2:= @Fun.binds2
def bn3:= @Fun.binds3
def bn4:= @Fun.binds4
def bn5:= @Fun.binds5
abbrev s_5:Stmt:=(aj_8 (top 8)).getD 0 (.Pass ⟨0,0,0,0⟩)
theorem am_5:FnScope ["self", "at"] ["self", "at"] (b_5 s_5):=⟨rfl,rfl,rfl,by decide +kernel,rfl,by decide +kernel,by decide +kernel⟩
theorem am_6{C f:Addr}{fd:FuncData}(F:Fun K "__init__" "NoValue.__init__" s_5 f fd)(xc:XCls K C)(hn:findIn K (.ref C) "at" =some none):FnX P w K mg base false 1 f fd ["self", "at"] (ai_7 C "at"):=
 by_4 (k:=0) F am_5 fun zp A outer s H E=>ba_6 (by_2 xc hn (j_7 rfl (.inl rfl)) (j_7 rfl (.inl rfl)))
abbrev x_1:Stmt:=(aj_8 (top 3)).getD 0 (.Pass ⟨0,0,0,0⟩)
theorem av_5:FnScope ["self", "at"] ["self", "at"] (b_5 x_1):=⟨rfl,rfl,rfl,by decide +kernel,rfl,by decide +kernel,by decide +kernel⟩
theorem av_6{C f:Addr}{fd:FuncData}(F:Fun K "__init__" "NoKey.__init__" x_1 f fd)(xc:XCls K C)(hn:findIn K (.ref C) "at" =some none):FnX P w K mg base false 1 f fd ["self", "at"] (ai_7 C "at"):=
 by_4 (k:=0) F av_5 fun zp A outer s H E=>ba_6 (by_2 xc hn (j_7 rfl (.inl rfl)) (j_7 rfl (.inl rfl)))
def bu_8(F:Fun K "_law_mix" "_law_mix" (top 37) f fd):FnX P w K mg base true 1 f fd ["_law_cell_here", "_law_k"] (spX K 2 c_8):=
 h_5 (N:= ["_law_cell_here", "_law_k", "_law_first"]) F fun zq zr hu nd zu=>(a_4 (b_6 (i:=2) [0,1] (a_3 b_3 (a_3 h_4 (a_3 c_1 (a_0 0) a_2) (a_3 c_1 a_2 (a_3 h_4 a_2 (a_0 1)))) a_2) nd)
  (b_0 (d_0 [1,2] (a_3 b_3 (a_3 c_1 (a_3 c_1 (a_3 h_4 (a_3 g_0 (a_0 2) a_2) a_2) (a_3 h_4 (a_0 2) (a_3 c_1 (a_3 h_4 (a_0 1) (a_0 1)) a_2))) (a_0 1)) a_2))))
variable(i7:ba_1 P w K mg base)(j6:mg "len" =none)
def bo_6(F:Fun K "_law_cell" "_law_cell" (top 38) f fd):FnX P w K mg base true 2 f fd ["_law_script", "_law_k"] (spX K 2 i_3):=
 h_5 (N:= ["_law_script", "_law_k", "_law_cell_here"]) F fun zq zr hu nd zu=>(a_4 (b_6 (i:=2) [] a_2 nd)
  (a_4 (i_6 [0,1] (d_8 bc_1 (a_0 1) (d_1 k_0 rfl j6 PySem.boot_len (a_1 (a_0 0) a_6)) (d_7 _))
   (b_0 (b_6 (i:=2) [0,1] (a_3 b_3 (f_3 (a_0 0) (a_0 1)) a_2) nd))
   e_8)
  (b_0 (d_0 [1,2] (b_7 zr zu i7 (a_1 (a_0 2) (a_1 (a_3 c_1 (a_0 1) a_2) a_6)))))))
variable(k7:at_3 P w K mg base)
def bg_2(F:Fun K "_law_sizes" "_law_sizes" (top 45) f fd):FnX P w K mg base true 3 f fd ["_law_script", "_law_most"] (spX K 2 p_7):=
 h_5 (N:= ["_law_script", "_law_most", "_law_cell_here", "_law_part", "_law_salt", "_law_other", "_law_modulus"]) F fun zq zr hu nd zu=>(a_4 (b_6 (i:=2) [0] (b_7 zr zu k7 (a_1 (a_0 0) (a_1 a_2 a_6))) nd)
  (a_4 (b_6 (i:=3) [1,2] (a_3 c_1 a_2 (a_3 b_3 (a_0 2) (a_0 1))) nd)
  (a_4 (b_6 (i:=4) [2] (f_3 (i_9 (a_1 a_2 (a_1 a_2 (a_1 (a_3 b_3 (a_3 g_0 (a_0 2) a_2) a_2) (a_1 (a_3 c_1 (a_3 v_9 a_2 a_2) (a_0 2)) a_6))))) (a_3 b_3 (a_3 g_0 (a_0 2) a_2) a_2)) nd)
  (a_4 (b_6 (i:=5) [2] (b_7 zr zu i7 (a_1 (a_0 2) (a_1 a_2 a_6))) nd)
  (a_4 (b_6 (i:=6) [5] (f_3 (i_9 (a_1 a_2 (a_1 a_2 (a_1 (a_3 c_1 a_2 (a_3 b_3 (a_3 g_0 (a_0 5) a_2) a_2)) (a_1 a_2 (a_1 a_2 (a_1 a_2 (a_1 (a_3 c_1 a_2 (a_3 b_3 (a_3 g_0 (a_0 5) a_2) a_2)) (a_1 a_2 a_6))))))))) (a_3 b_3 (a_0 5) a_2)) nd)
  (b_0 (d_0 [3,4,6] (ad_8 (a_1 (a_0 3) (a_1 (a_0 4) (a_1 (a_0 6) a_6)))))))))))
variable(ae0:mg "max" =none)(ak8:mg "min" =none)
def bo_7(F:Fun K "_law_many" "_law_many" (top 46) f fd):FnX P w K mg base true 3 f fd ["_law_script", "_law_start", "_law_most"] (spX K 3 o_6):=
 h_5 (N:= ["_law_script", "_law_start", "_law_most", "_law_cells"]) F fun zq zr hu nd zu=>(a_4 (b_6 (i:=3) [0,1] (d_1 (aa_0 zq) rfl ae0 PyProof.Rows.boot_max (a_1 a_2 (a_1 (a_3 o_7 (d_1 k_0 rfl j6 PySem.boot_len (a_1 (a_0 0) a_6)) (a_0 1)) a_6))) nd)
  (b_0 (d_0 [0,1,2,3] (d_1 (cd_8 zq) rfl ak8 PyProof.Rows.boot_min (a_1 (a_0 2) (a_1 (d_1 (aa_0 zq) rfl ae0 PyProof.Rows.boot_max (a_1 (a_0 3) (a_1 (a_3 b_3 (b_7 zr zu k7 (a_1 (a_0 0) (a_1 (a_3 o_7 (a_0 1) a_2) a_6))) (a_3 c_1 (a_0 2) a_2)) a_6))) a_6))))))
def bu_9(F:Fun K "_law_raw" "_law_raw" (top 44) f fd):FnX P w K mg base true 3 f fd ["_law_script", "_law_k"] (spX K 2 l_8):=
 h_5 (N:= ["_law_script", "_law_k", "_law_cell_here"]) F fun zq zr hu nd zu=>(a_4 (b_6 (i:=2) [] a_2 nd)
  (a_4 (i_6 [0,1] (d_8 bc_1 (a_0 1) (d_1 k_0 rfl j6 PySem.boot_len (a_1 (a_0 0) a_6)) (d_7 _))
   (b_0 (b_6 (i:=2) [0,1] (f_3 (a_0 0) (a_0 1)) nd))
   e_8)
  (a_4 (i_6 [0] (d_8 (l_1 hu) (a_3 b_3 (b_7 zr zu k7 (a_1 (a_0 0) (a_1 a_2 a_6))) a_2) a_2 (d_7 _))
   (b_0 (aa_2 2))
   e_8)
  (b_0 (d_0 [1,2] (b_7 zr zu i7 (a_1 (b_7 zr zu i7 (a_1 (a_3 b_3 (a_0 2) a_2) (a_1 (a_3 c_1 (a_0 1) a_2) a_6))) (a_1 (a_0 1) a_6))))))))
variable(y6:mg "range" =none)
def bo_8(F:Fun K "_law_text" "_law_text" (top 42) f fd):FnX P w K mg base true 1 f fd ["_law_cell_here"] (spX K 1 n_0):=
 h_5 (N:= ["_law_cell_here", "_law_found", "_law_rest", "_law_k"]) F fun zq zr hu nd zu=>(a_4 (b_6 (i:=1) [] q_2 nd)
  (a_4 (b_6 (i:=2) [0] (a_3 g_0 (a_0 0) a_2) nd)
  (a_4 (ap_9 [0] l_5 zq (ai_2 y6 (a_1 (a_3 b_3 (a_0 0) a_2) a_6)) (bc_3 (i:=3) nd)
   (a_4 (b_6 (i:=1) [1,2] (a_3 c_1 (a_0 1) (f_3 q_2 (a_3 b_3 (a_0 2) a_2))) nd)
  (b_0 (b_6 (i:=2) [2] (a_3 g_0 (a_0 2) a_2) nd))))
  (b_0 (aa_2 1)))))
variable(o9:at_5 P w K mg base)
def bv_0(F:Fun K "_law_key" "_law_key" (top 43) f fd):FnX P w K mg base true 2 f fd ["_law_cell_here"] (spX K 1 j_3):=
 h_5 (N:= ["_law_cell_here", "_law_rest"]) F fun zq zr hu nd zu=>(a_4 (b_6 (i:=1) [0] (a_3 g_0 (a_0 0) a_2) nd)
  (a_4 (i_6 [0] (d_8 (l_1 hu) (a_3 b_3 (a_0 0) a_2) a_2 (d_7 _))
   (b_0 (d_0 [1] (a_3 b_3 (a_0 1) (a_3 v_9 a_2 a_2))))
   e_8)
  (a_4 (i_6 [0] (d_8 (l_1 hu) (a_3 b_3 (a_0 0) a_2) a_2 (d_7 _))
   (b_0 (d_0 [1] (b_7 zr zu o9 (a_1 (a_0 1) a_6))))
   e_8)
  (b_0 (d_0 [0,1] (a_3 b_3 (a_0 1) (f_3 (i_9 (a_1 a_2 (a_1 a_2 a_6))) (a_3 o_7 (a_3 b_3 (a_0 0) a_2) a_2))))))))
variable(v6:ba_2 P w K mg base)(x3:ba_3 P w K mg base)(ab0:mg "list" =none)
def bo_9(F:Fun K "_law_deed" "_law_deed" (top 47) f fd):FnX P w K mg base true 4 f fd ["_law_script", "_law_start", "_law_k", "_law_kept", "_law_sizes_here"] (spX K 5 n_1):=
 h_5 (N:= ["_law_script", "_law_start", "_law_k", "_law_kept", "_law_sizes_here", "_law_cell_here", "_law_way", "_law_rest", "_law_value", "_law_key_here"]) F fun zq zr hu nd zu=>(a_4 (b_6 (i:=5) [0,1,2] (b_7 zr zu v6 (a_1 (a_0 0) (a_1 (a_3 c_1 (a_0 1) (a_3 b_3 (a_0 2) (d_1 (aa_0 zq) rfl ae0 PyProof.Rows.boot_max (a_1 a_2 (a_1 (a_3 o_7 (d_1 k_0 rfl j6 PySem.boot_len (a_1 (a_0 0) a_6)) (a_0 1)) a_6))))) a_6))) nd)
  (a_4 (i_6 [0] (d_8 (l_1 hu) (a_3 b_3 (b_7 zr zu k7 (a_1 (a_0 0) (a_1 a_2 a_6))) a_2) a_2 (d_7 _))
   (b_0 (b_6 (i:=5) [2,5] (b_7 zr zu i7 (a_1 (a_3 b_3 (a_0 5) a_2) (a_1 (a_0 2) a_6))) nd))
   e_8)
  (a_4 (b_6 (i:=6) [5] (a_3 b_3 (a_0 5) a_2) nd)
  (a_4 (b_6 (i:=7) [5] (a_3 g_0 (a_0 5) a_2) nd)
  (a_4 (b_6 (i:=8) [4,7] (a_3 b_3 (a_0 7) (f_3 (a_0 4) a_2)) nd)
  (a_4 (b_6 (i:=9) [4,7] (b_7 zr zu x3 (a_1 (a_3 g_0 (a_0 7) (f_3 (a_0 4) a_2)) a_6)) nd)
  (a_4 (i_6 [3,6] (td_w (bq_7 (d_8 cl_0 (a_0 6) a_2 (d_7 _)) (bb_7 (d_8 (bm_9 hu) (a_0 3) ag_0 (d_7 _)))))
   (b_0 (b_6 (i:=9) [3,4,7] (f_3 (bn_0 zq ab0 (a_0 3)) (a_3 b_3 (a_3 g_0 (a_0 7) (f_3 (a_0 4) a_2)) (d_1 o_4 rfl j6 PySem.boot_len (a_1 (a_0 3) a_6)))) nd))
   e_8)
  (b_0 (d_0 [6,8,9] (ad_8 (a_1 (f_3 (i_9 (a_1 a_2 (a_1 a_2 (a_1 a_2 (a_1 a_2 (a_1 a_2 (a_1 a_2 (a_1 a_2 (a_1 a_2 a_6))))))))) (a_0 6)) (a_1 (a_0 9) (a_1 (a_0 8) a_6)))))))))))))
def aj_9(F:Fun K "_law_bad_value" "_law_bad_value" (top 52) f fd):FnX P w K mg base true 1 f fd ["_law_cell_here", "_law_modulus"] (spX K 2 e_2):=
 h_5 (N:= ["_law_cell_here", "_law_modulus"]) F fun zq zr hu nd zu=>(b_0 (d_0 [0,1] (f_3 (i_9 (a_1 (bc_8 a_2) (a_1 (a_0 1) (a_1 (a_3 o_7 (a_3 o_7 a_2 a_2) (a_3 b_3 (a_0 0) (a_3 v_9 a_2 a_2))) (a_1 (a_3 c_1 (a_0 1) (a_3 b_3 (a_0 0) (a_3 v_9 a_2 a_2))) a_6))))) (a_3 b_3 (a_0 0) a_2))))
def av_7(F:Fun K "_law_no_key" "_law_no_key" (top 51) f fd):FnX P w K mg base true 2 f fd ["_law_cell_here"] (spX K 1 f_5):=
 h_5 (N:= ["_law_cell_here", "_law_rest", "_law_text_here", "_law_at"]) F fun zq zr hu nd zu=>(a_4 (b_6 (i:=1) [0] (a_3 g_0 (a_0 0) a_2) nd)
  (a_4 (i_6 [0] (d_8 (l_1 hu) (a_3 b_3 (a_0 0) a_2) a_2 (d_7 _))
   (b_0 (d_0 [1] (f_3 (i_9 (a_1 (bc_8 a_2) (a_1 (a_3 o_7 (a_3 o_7 a_2 a_2) (a_3 b_3 (a_0 1) (a_3 v_9 a_2 a_2))) a_6))) (a_3 b_3 (a_0 1) a_2))))
   e_8)
  (a_4 (i_6 [0] (d_8 (l_1 hu) (a_3 b_3 (a_0 0) a_2) a_2 (d_7 _))
   (b_0 (d_0 [1] (a_3 c_1 (a_3 v_9 a_2 a_2) (f_3 (i_9 (a_1 a_2 (a_1 (a_3 b_3 (a_0 1) (a_3 v_9 a_2 a_2)) a_6))) (a_3 b_3 (a_0 1) a_2)))))
   e_8)
  (a_4 (i_6 [0] (d_8 (l_1 hu) (a_3 b_3 (a_0 0) a_2) a_2 (d_7 _))
   (b_0 (d_0 [1] (a_3 c_1 (aq_3 q_2 bc_5 (bc_6 a_2)) (b_7 zr zu o9 (a_1 (a_3 c_1 (a_3 c_1 a_2 (a_3 b_3 (a_0 1) a_2)) (a_3 h_4 (a_3 g_0 (a_0 1) a_2) a_2)) a_6)))))
   e_8)
  (a_4 (b_6 (i:=2) [1] (b_7 zr zu o9 (a_1 (a_3 c_1 (a_3 b_3 (a_0 1) a_2) (a_3 h_4 (a_3 g_0 (a_0 1) a_2) a_2)) a_6)) nd)
  (a_4 (b_6 (i:=3) [1,2] (a_3 b_3 (a_0 1) (a_3 c_1 (d_1 k_0 rfl j6 PySem.boot_len (a_1 (a_0 2) a_6)) a_2)) nd)
  (b_0 (d_0 [1,2,3] (a_3 c_1 (a_3 c_1 (aq_3 (a_0 2) bc_5 (bc_6 (a_0 3))) (f_3 q_2 (a_3 b_3 (a_3 g_0 (a_0 1) a_2) a_2))) (aq_3 (a_0 2) (bc_6 (a_0 3)) bc_5))))))))))
variable(c8:mg "isinstance" =none)(x6:mg "ValueError" =none){j8:Addr}{j4:Addr}{l8:Addr}{j9:Addr}{j2:Addr}{l9:Addr}{c9:Addr}{m6:Addr}{i8:Addr}(ac4:mg "NoBits" =some (.ref j8))(aa9:mg "NoEdges" =some (.ref j4))(ag5:mg "NoFit" =some (.ref l8))(ac8:mg "NoKeys" =some (.ref j9))(ab2:mg "NoRange" =some (.ref j2))(af8:mg "NoTry" =some (.ref l9))(v7:mg "Stuck" =some (.ref c9))(af5:mg "Twice" =some (.ref m6))(u4:mg "LodgeError" =some (.ref i8))(u3:IsOne K (.ref i8) [("NoKey",true),("NoSuch",true),("NoValue",true),("Stuck",true)])(r6:IsOne K (.type "ValueError") [("NoKey",true),("NoSuch",true),("NoValue",true),("Stuck",true)])(c6:IsAny K [j8,j4,l8,j9,j2,l9,c9,m6] [("NoKey",false),("NoSuch",false),("NoValue",false),("Stuck",true)])
def bg_3(F:Fun K "_law_alone" "_law_alone" (top 49) f fd):FnX P w K mg base false 1 f fd ["_law_error"] (spX K 1 p_8):=
 h_5 (N:= ["_law_error", "_law_one"]) F fun zq zr hu nd zu=>(a_4 (b_6 (i:=1) [0] (ag_4 c6 (a_0 0) c8 (h_9 ac4 (h_9 aa9 (h_9 ag5 (h_9 ac8 (h_9 ab2 (h_9 af8 (h_9 v7 (h_9 af5 an_7))))))))) nd)
  (b_0 (d_0 [0,1] (x_9 (di_6 u3 (a_0 0) c8 u4) (x_9 (di_7 r6 (a_0 0) c8 x6 am_2) (ad_7 (ap_2 (a_0 1))))))))
variable(al2:mg "all" =none){ag9:Tok}(y4:mg "MOST_SIGNS" =some (.int 11 ag9)){al8:Tok}(ac0:mg "SIGNS" =some (.str "abcdefghijklmnopqrstuvwxyz0123456789-_ " al8))
def at_9(F:Fun K "is_key_text" "is_key_text" (top 23) f fd):FnX P w K mg base true 1 f fd ["text"] (spX K 1 g_4):=
 h_5 (N:= ["text"]) F fun zq zr hu nd zu=>(b_0 (d_0 [0] (x_9 (bb_6 ap_7 (d_1 k_0 rfl j6 PySem.boot_len (a_1 (a_0 0) a_6)) (v_8 rfl y4) (d_7 _)) (ad_7 (d_1 (ce_3 zq) rfl al2 PyProof.Rows.boot_all (a_1 (bc_4 (N':= ["text", "sign"]) zq (ax_7 (a_0 0)) rfl (by kernel_rfl) rfl (fun C s0 H0 fp pn=>⟨(gcM (i:=1)),br_9,(bb_6 dg_6 (a_0 1) (bw_7 rfl ac0) (by with_unfolding_all rfl))⟩)) a_6))))))
variable(u7:ad_5 P w K mg base)(af6:mg "bool" =none)(ak5:mg "int" =none)(ah8:mg "str" =none)(aa0:KitT K "bool")(ah3:KitT K "int")(ab7:KitT K "str"){ab9:Tok}(n9:mg "GREATEST_NUMBER" =some (.int 999999999999999999 ab9))
def ch_7(F:Fun K "is_key" "is_key" (top 24) f fd):FnX P w K mg base true 2 f fd ["thing"] (spX K 1 m_4):=
 h_5 (N:= ["thing"]) F fun zq zr hu nd zu=>(a_4 (i_6 [0] (u_4 (aq_4 aa0 (a_0 0) c8 af6 ax_9))
   (b_0 (d_0 [] ak_3))
   e_8)
  (a_4 (i_6 [0] (u_4 (aq_4 ah3 (a_0 0) c8 ak5 PyProof.Rows.boot_int))
   (b_0 (d_0 [0] (bh_3 ap_7 ap_7 a_2 (a_0 0) (v_8 rfl n9))))
   e_8)
  (b_0 (d_0 [0] (x_9 (aq_4 ab7 (a_0 0) c8 ah8 PyProof.Rows.boot_str) (ad_7 (b_7 zr zu u7 (a_1 (a_0 0) a_6))))))))
def cs_3(F:Fun K "worth" "worth" (top 25) f fd):FnX P w K mg base true 1 f fd ["text"] (spX K 1 ag_7):=
 h_5 (N:= ["text", "total", "sign"]) F fun zq zr hu nd zu=>(a_4 (b_6 (i:=1) [] a_2 nd)
  (a_4 (ap_9 [0] l_5 zq (ax_7 (a_0 0)) (bc_3 (i:=2) nd)
   (b_0 (b_6 (i:=1) [1,2] (a_3 c_1 (a_3 c_1 (a_3 h_4 a_2 (a_0 1)) (cw_2 PySem.F.plainAttrs_str PySem.F.slot_str_find PySem.F.type_str_find cm_0 (bw_7 rfl ac0) (a_1 (a_0 2) a_6))) a_2) nd)))
  (b_0 (aa_2 1))))
variable(ag1:bo_4 P w K mg base)(ag8:cb_4 P w K mg base){c7:Addr}(ah5:XC P w K mg base "NoKey" "at" c7)
def cs_4(F:Fun K "stamp" "stamp" (top 26) f fd):FnX P w K mg base true 3 f fd ["key"] (spX K 1 i_8):=
 h_5 (N:= ["key"]) F fun zq zr hu nd zu=>(a_4 (i_6 [0] (ck_3 (u_4 (b_7 zr zu ag1 (a_1 (a_0 0) a_6))))
   (b_0 (bk_9 [] ah5 (RoomC.mono zr (by decide)) an_6 a_2))
   e_8)
  (a_4 (i_6 [0] (u_4 (aq_4 ab7 (a_0 0) c8 ah8 PyProof.Rows.boot_str))
   (b_0 (d_0 [0] (a_3 c_1 (a_3 h_4 a_2 (b_7 zr zu ag8 (a_1 (a_0 0) a_6))) a_2)))
   e_8)
  (b_0 (d_0 [0] (a_3 h_4 a_2 (a_0 0))))))
variable(x5:cb_5 P w K mg base)(j3:OFld K ["Living"] "by_key"){b9:Addr}(ad9:XC0 K mg "NoSuch" b9)
def au_0(F:Fun K "drop" "Living.drop" (inC 35 10) f fd):FnX P w K mg base true 4 f fd ["self", "key"] (spR K 1 b_8):=
 ar_7 (n:=1) (N:= ["self", "key"]) F (by decide) (by decide) fun zq zr hu nd zu=>(a_4 (cv_6 [1] (b_7 zr zu x5 (a_1 (a_0 1) a_6)))
  (a_4 (i_6 [0,1] (d_8 (aa_6 hu) (a_0 1) (o_5 j3 (a_0 0)) (by with_unfolding_all rfl))
   (b_0 (ay_4 ad9 (RoomC.mono zr (by decide)) an_6))
   e_8)
  (b_0 (cy_4 (i:=0) j3 (a_0 1)))))
def bp_0(F:Fun K "is_below" "is_below" (top 14) f fd):FnX P w K mg base true 1 f fd ["number", "limit"] (spX K 2 h_1):=
 h_5 (N:= ["number", "limit"]) F fun zq zr hu nd zu=>(b_0 (d_0 [0,1] (x_9 (ap_2 (aq_4 aa0 (a_0 0) c8 af6 ax_9)) (ad_7 (bh_3 ap_7 bc_1 a_2 (a_0 0) (a_0 1))))))
def bp_1(F:Fun K "steps_to" "steps_to" (top 33) f fd):FnX P w K mg base true 1 f fd ["start", "ways"] (spX K 2 i_4):=
 h_5 (N:= ["start", "ways", "steps", "waiting", "place", "key", "other"]) F fun zq zr hu nd zu=>(a_4 (b_6 (i:=2) [0] (cz_3 (a_0 0) bb_5) nd)
  (a_4 (b_6 (i:=3) [0] (i_9 (a_1 (a_0 0) a_6)) nd)
  (a_4 (bi_4 [3] 3000 l_5 (d_8 cl_0 (d_1 k_0 rfl j6 PySem.boot_len (a_1 (a_0 3) a_6)) a_2 (d_7 _))
   (a_4 (cz_4 (i:=4) (j:=3) a_2 nd)
  (b_0 (ap_9 [1,4] l_5 zq (ax_7 (cw_9 hu (a_0 1) (a_0 4) (i_9 a_6))) (br_6 (i:=5) (j:=6) zq nd)
   (b_0 (i_6 [2,6] (d_8 (aa_6 hu) (a_0 6) (a_0 2) (by with_unfolding_all rfl))
   (a_4 (bx_6 (i:=2) [4,5] hu (ad_8 (a_1 (a_0 5) (a_1 (a_0 4) a_6))) (a_0 6))
  (b_0 (br_8 (i:=3) (a_0 6))))
   e_8))))))
  (b_0 (aa_2 2)))))
def bg_4(F:Fun K "remainder" "remainder" (top 16) f fd):FnX P w K mg base true 1 f fd ["number", "modulus"] (spX K 2 n_3):=
 h_5 (N:= ["number", "modulus"]) F fun zq zr hu nd zu=>(b_0 (d_0 [0,1] (ck_4 (d_8 (l_1 hu) (a_0 1) a_2 (d_7 _)) a_2 (a_3 b_3 (a_0 0) (a_0 1)))))
variable(p5:al_8 P w K mg base)(l5:OFld K ["Living"] "listed")(x9:OFld K ["Living"] "part")(k6:OFld K ["Living"] "modulus")(z7:mg "enumerate" =none)
def am_7(F:Fun K "shift" "Living.shift" (inC 35 9) f fd):FnX P w K mg base true 2 f fd ["self", "tied", "in_first_part", "in_second_part"] (spR K 3 d_2):=
 ar_7 (n:=3) (N:= ["self", "tied", "in_first_part", "in_second_part", "numbers", "place", "number", "more"]) F (by decide) (by decide) fun zq zr hu nd zu=>(a_4 (b_6 (i:=4) [] (i_9 a_6) nd)
  (a_4 (cz_0 l_5 zq z7 (p_0 [0] (o_5 l5 (a_0 0))) (br_6 (i:=5) (j:=6) zq nd)
   (a_4 (aa_9 (i:=7) (p_0 [0] (ck_4 (d_8 bc_1 (a_0 5) (o_5 x9 (a_0 0)) (d_7 _)) (a_0 2) (a_0 3))) nd)
  (b_0 (br_8 (i:=4) (ck_4 (d_8 (bs_2 hu) (a_0 5) (a_0 1) (by with_unfolding_all rfl)) (b_7 zr zu p5 (a_1 (a_3 c_1 (a_0 6) (a_0 7)) (a_1 (o_5 k6 (a_0 0)) a_6))) (a_0 6))))))
  (b_0 (cy_5 (i:=0) [4] l5 (a_0 4)))))
variable(p4:at_8 P w K mg base)(m9:MethR P w K mg base true 2 3 "shift" "Living" d_2)(ag0:XC0 K mg "Stuck" c9)
def au_1(F:Fun K "mend" "Living.mend" (inC 35 8) f fd):FnX P w K mg base true 3 f fd ["self", "places", "lacking", "ways"] (spR K 3 g_5):=
 ar_7 (n:=3) (N:= ["self", "places", "lacking", "ways", "first", "second"]) F (by decide) (by decide) fun zq zr hu nd zu=>(a_4 (b_6 (i:=4) [1,3] (b_7 zr zu p4 (a_1 (f_3 (a_0 1) a_2) (a_1 (a_0 3) a_6))) nd)
  (a_4 (b_6 (i:=5) [1,3] (b_7 zr zu p4 (a_1 (f_3 (a_0 1) a_2) (a_1 (a_0 3) a_6))) nd)
  (a_4 (i_6 [1,4] (d_8 (bs_2 hu) (f_3 (a_0 1) a_2) (a_0 4) (by with_unfolding_all rfl))
   (b_0 (ay_4 ag0 (RoomC.mono zr (by decide)) an_6))
   e_8)
  (a_4 (i_6 [4,5] (d_8 ap_7 (d_1 o_4 rfl j6 PySem.boot_len (a_1 (a_0 4) a_6)) (d_1 o_4 rfl j6 PySem.boot_len (a_1 (a_0 5) a_6)) (d_7 _))
   (a_4 (p_6 (k_6 [2,4] (w_2 (i:=0) m9 zr zu (c_5 (a_0 4) (c_5 (a_0 2) (c_5 (bc_8 (a_0 2)) q_5))))))
  (b_0 (q_9 (m_5 [4] (d_1 o_4 rfl j6 PySem.boot_len (a_1 (a_0 4) a_6))))))
   e_8)
  (a_4 (p_6 (k_6 [2,5] (w_2 (i:=0) m9 zr zu (c_5 (a_0 5) (c_5 (bc_8 (a_0 2)) (c_5 (a_0 2) q_5))))))
  (b_0 (q_9 (m_5 [5] (d_1 o_4 rfl j6 PySem.boot_len (a_1 (a_0 5) a_6))))))))))
variable{am4:Tok}(ab5:mg "PRIME" =some (.int 2305843009213693951 am4))
def cs_5(F:Fun K "mixed" "mixed" (top 27) f fd):FnX P w K mg base true 1 f fd ["number", "salt", "size"] (spX K 3 ag_8):=
 h_5 (N:= ["number", "salt", "size", "factor", "shift", "first"]) F fun zq zr hu nd zu=>(a_4 (i_6 [2] (d_8 (l_1 hu) (a_0 2) a_2 (d_7 _))
   (b_0 (d_0 [] a_2))
   e_8)
  (a_4 (b_6 (i:=3) [1] (a_3 c_1 a_2 (a_3 b_3 (a_3 c_1 (a_3 h_4 a_2 (a_0 1)) a_2) (a_3 o_7 (v_8 rfl ab5) a_2))) nd)
  (a_4 (b_6 (i:=4) [1] (a_3 b_3 (a_3 c_1 (a_3 h_4 (a_3 h_4 a_2 (a_0 1)) (a_0 1)) (a_3 h_4 a_2 (a_0 1))) (v_8 rfl ab5)) nd)
  (a_4 (b_6 (i:=5) [0,3,4] (a_3 b_3 (a_3 c_1 (a_3 h_4 (a_0 3) (a_0 0)) (a_0 4)) (v_8 rfl ab5)) nd)
  (b_0 (d_0 [2,5] (a_3 b_3 (a_3 c_1 (a_0 5) (a_3 g_0 (a_0 5) a_2)) (a_0 2))))))))
variable(ah4:cb_6 P w K mg base)(ah6:mg "tuple" =none)
def bg_5(F:Fun K "places_of" "places_of" (top 29) f fd):FnX P w K mg base true 4 f fd ["key", "salt", "kind", "part"] (spX K 4 l_7):=
 h_5 (N:= ["key", "salt", "kind", "part", "number"]) F fun zq zr hu nd zu=>(a_4 (b_6 (i:=4) [0] (b_7 zr zu x5 (a_1 (a_0 0) a_6)) nd)
  (b_0 (d_0 [1,2,3,4] (ax_2 br_1 rfl ah6 PyProof.Rows.boot_tuple (a_1 (bc_4 (N':= ["key", "salt", "kind", "part", "number", "turn"]) zq (ai_2 y6 (a_1 (a_0 2) a_6)) rfl (by kernel_rfl) rfl (fun C s0 H0 fp pn=>⟨(gcM (i:=5)),br_9,(a_3 c_1 (a_3 h_4 (a_0 5) (a_0 3)) (b_7 (ai_3 zr) aa_1 ah4 (a_1 (a_0 4) (a_1 (a_3 c_1 (a_3 h_4 a_2 (a_0 1)) (a_0 5)) (a_1 (a_0 3) a_6)))))⟩)) a_6)))))
variable(aa1:al_9 P w K mg base)(r9:OFld K ["Living"] "by_salt"){am9:Tok}(ag4:mg "KIND" =some (.int 2 am9))
def ak_0(F:Fun K "places" "Living.places" (inC 35 4) f fd):FnX P w K mg base true 5 f fd ["self", "key"] (spX K 2 b_1):=
 h_5 (N:= ["self", "key"]) F fun zq zr hu nd zu=>(b_0 (d_0 [0,1] (b_7 zr zu aa1 (a_1 (a_0 1) (a_1 (o_5 r9 (a_0 0)) (a_1 (v_8 rfl ag4) (a_1 (o_5 x9 (a_0 0)) a_6)))))))
variable(t7:at_7 P w K mg base)(al6:mg "sum" =none)
def ch_8(F:Fun K "summed" "summed" (top 17) f fd):FnX P w K mg base true 2 f fd ["table", "places", "modulus"] (spX K 3 z_4):=
 h_5 (N:= ["table", "places", "modulus", "found"]) F fun zq zr hu nd zu=>(a_4 (cw_1 (i:=3) [0,1] (N':= ["table", "places", "modulus", "found", "place"]) zq (ax_7 (a_0 1)) rfl (by kernel_rfl) rfl (fun C s0 H0 fp pn=>⟨(gcM (i:=4)),(cl_7 (u_4 (b_7 (ai_3 zr) aa_1 t7 (a_1 (a_0 4) (a_1 (d_1 k_0 rfl j6 PySem.boot_len (a_1 (a_0 0) a_6)) a_6))))),(f_3 (a_0 0) (a_0 4))⟩) nd)
  (b_0 (d_0 [2,3] (b_7 zr zu p5 (a_1 (d_1 (ce_4 zq) rfl al6 PyProof.Rows.boot_sum (a_1 (a_0 3) a_6)) (a_1 (a_0 2) a_6))))))
variable(ae8:bo_5 P w K mg base)(d6:MethT P w K mg base true 5 1 "places" [("Living",b_1)])
def am_8(F:Fun K "value" "Living.value" (inC 35 1) f fd):FnX P w K mg base true 6 f fd ["self", "key"] (spX K 2 c_6):=
 h_5 (N:= ["self", "key"]) F fun zq zr hu nd zu=>(b_0 (d_0 [0,1] (b_7 zr zu ae8 (a_1 (o_5 l5 (a_0 0)) (a_1 (o_8 d6 zr zu (a_0 0) (a_1 (a_0 1) a_6)) (a_1 (o_5 k6 (a_0 0)) a_6))))))
def bv_1(F:Fun K "ways_at" "ways_at" (top 32) f fd):FnX P w K mg base true 1 f fd ["places_by_key"] (spX K 1 ab_1):=
 h_5 (N:= ["places_by_key", "ways", "key", "places"]) F fun zq zr hu nd zu=>(a_4 (b_6 (i:=1) [] ag_0 nd)
  (a_4 (ap_9 [0] l_5 zq (ax_7 (a_0 0)) (br_6 (i:=2) (j:=3) zq nd)
   (a_4 (co_4 (i:=1) (f_3 (a_0 3) a_2) (ad_8 (a_1 (a_0 2) (a_1 (f_3 (a_0 3) a_2) a_6))))
  (b_0 (co_4 (i:=1) (f_3 (a_0 3) a_2) (ad_8 (a_1 (a_0 2) (a_1 (f_3 (a_0 3) a_2) a_6)))))))
  (b_0 (aa_2 1))))
variable(ac6:ba_4 P w K mg base)
def x_2(F:Fun K "ways_without" "Living.ways_without" (inC 35 5) f fd):FnX P w K mg base true 6 f fd ["self", "key"] (spX K 2 b_2):=
 h_5 (N:= ["self", "key"]) F fun zq zr hu nd zu=>(b_0 (d_0 [0,1] (b_7 zr zu ac6 (a_1 (cn_6 (N':= ["self", "key", "other"]) zq (o_5 j3 (a_0 0)) rfl (by kernel_rfl) rfl (fun C s0 H0 fp pn=>⟨(gcM (i:=2)),(cl_7 (d_8 (ai_1 hu) (a_0 2) (a_0 1) (d_7 _))),(ad_8 (a_1 (a_0 2) (a_1 (o_8 d6 (ai_3 zr) aa_1 (a_0 0) (a_1 (a_0 2) a_6)) a_6)))⟩)) a_6))))
variable(t9:MethR P w K mg base true 3 3 "mend" "Living" g_5)(k9:MethT P w K mg base true 6 1 "value" [("Living",c_6)])(f8:MethT P w K mg base true 6 1 "ways_without" [("Living",b_2)]){a9:Addr}(ad6:XC P w K mg base "NoValue" "at" a9)
def av_8(F:Fun K "put" "Living.put" (inC 35 7) f fd):FnX P w K mg base true 7 f fd ["self", "key", "value"] (spR K 2 c_3):=
 ar_7 (n:=2) (N:= ["self", "key", "value", "places", "lacking", "changed"]) F (by decide) (by decide) fun zq zr hu nd zu=>(a_4 (aa_9 (i:=3) (p_0 [0] (o_8 d6 zr (Lk.lend zu) (a_0 0) (a_1 (a_0 1) a_6))) nd)
  (a_4 (i_6 [0,2] (ck_3 (u_4 (b_7 zr zu t7 (a_1 (a_0 2) (a_1 (o_5 k6 (a_0 0)) a_6)))))
   (b_0 (bk_9 [] ad6 (RoomC.mono zr (by decide)) an_6 a_2))
   e_8)
  (a_4 (aa_9 (i:=4) (p_0 [0] (a_3 o_7 (a_0 2) (o_8 k9 zr (Lk.lend zu) (a_0 0) (a_1 (a_0 1) a_6)))) nd)
  (a_4 (b_6 (i:=5) [] a_2 nd)
  (a_4 (i_6 [4] (d_8 (ai_1 hu) (a_0 4) a_2 (d_7 _))
   (b_0 (aa_9 (i:=5) (k_6 [1,3,4] (w_2 (i:=0) t9 zr zu (c_5 (a_0 3) (c_5 (a_0 4) (cy_2 [0] (o_8 f8 zr (Lk.lend zu) (a_0 0) (a_1 (a_0 1) a_6)) q_5))))) nd))
   e_8)
  (a_4 (cy_3 (i:=0) hu j3 (a_0 2) (a_0 1))
  (b_0 (q_9 (m_5 [5] (a_0 5))))))))))
def ae_8(F:Fun K "keys_on_the_way" "keys_on_the_way" (top 34) f fd):FnX P w K mg base true 1 f fd ["place", "steps"] (spX K 2 o_0):=
 h_5 (N:= ["place", "steps", "found", "step"]) F fun zq zr hu nd zu=>(a_4 (b_6 (i:=2) [] (i_9 a_6) nd)
  (a_4 (b_6 (i:=3) [0,1] (bc_9 hu (a_0 1) (a_0 0)) nd)
  (a_4 (bi_4 [3] 3000 l_5 (d_8 cm_4 (a_0 3) bb_5 (d_7 _))
   (a_4 (br_8 (i:=2) (f_3 (a_0 3) a_2))
  (b_0 (b_6 (i:=3) [1,3] (bc_9 hu (a_0 1) (f_3 (a_0 3) a_2)) nd))))
  (b_0 (aa_2 2)))))
variable(o5:t_6 P w K mg base)
def au_2(F:Fun K "ring" "Living.ring" (inC 35 6) f fd):FnX P w K mg base true 7 f fd ["self", "key"] (spX K 2 g_6):=
 h_5 (N:= ["self", "key", "places", "steps"]) F fun zq zr hu nd zu=>(a_4 (b_6 (i:=2) [0,1] (o_8 d6 zr zu (a_0 0) (a_1 (a_0 1) a_6)) nd)
  (a_4 (b_6 (i:=3) [0,1,2] (b_7 zr zu p4 (a_1 (f_3 (a_0 2) a_2) (a_1 (o_8 f8 zr zu (a_0 0) (a_1 (a_0 1) a_6)) a_6))) nd)
  (a_4 (i_6 [2,3] (d_8 (aa_6 hu) (f_3 (a_0 2) a_2) (a_0 3) (by with_unfolding_all rfl))
   (b_0 (d_0 [] bb_5))
   e_8)
  (b_0 (d_0 [2,3] (b_7 zr zu o5 (a_1 (f_3 (a_0 2) a_2) (a_1 (a_0 3) a_6))))))))
variable(p6:al_7 P w K mg base)(l7:MethR P w K mg base true 4 1 "drop" "Living" b_8)(m7:MethR P w K mg base true 7 2 "put" "Living" c_3)(t8:MethT P w K mg base true 7 1 "ring" [("Living",g_6)])(u9:mg "NoKey" =some (.ref c7))(p9:mg "NoSuch" =some (.ref b9))(o8:mg "NoValue" =some (.ref a9))(ag2:Catches K c7 [("NoKey",true),("NoSuch",false),("NoValue",false),("Stuck",false)])(aa8:Catches K a9 [("NoKey",false),("NoSuch",false),("NoValue",true),("Stuck",false)])(ac5:Catches K b9 [("NoKey",false),("NoSuch",true),("NoValue",false),("Stuck",false)])(n6:IsAny K [b9,a9] [("NoKey",false),("NoSuch",true),("NoValue",true),("Stuck",false)])(o6:IsAny K [c7,b9] [("NoKey",true),("NoSuch",true),("NoValue",false),("Stuck",false)])(n8:IsAny K [c7,a9] [("NoKey",true),("NoSuch",false),("NoValue",true),("Stuck",false)])(ai7:XGets K ["NoKey", "NoValue"] "at")
def bg_6(F:Fun K "_law_asked" "_law_asked" (top 50) f fd):FnX P w K mg base true 8 f fd ["_law_living", "_law_way", "_law_key_here", "_law_value"] (spR K 3 d_3):=
 ar_7 (n:=3) (N:= ["_law_living", "_law_way", "_law_key_here", "_law_value", "_law_found", "_law_error"]) F (by decide) (by decide) fun zq zr hu nd zu=>(a_4 (b_6 (i:=4) [] bb_5 nd)
  (a_4 (by_8 nd rfl rfl (fun zd W EXB lkB=>(b_0 (i_6 [1] (d_8 (l_1 hu) (a_0 1) a_2 (d_7 _))
   (b_0 (p_6 (p_0 [0] (o_8 k9 (v_1 zr) (Lk.lend lkB) (a_0 0) (a_1 (a_0 2) a_6)))))
   (b_0 (i_6 [1] (d_8 (l_1 hu) (a_0 1) a_2 (d_7 _))
   (b_0 (p_6 (p_0 [0] (o_8 d6 (v_1 zr) (Lk.lend lkB) (a_0 0) (a_1 (a_0 2) a_6)))))
   (b_0 (i_6 [1] (d_8 (l_1 hu) (a_0 1) a_2 (d_7 _))
   (b_0 (p_6 (p_0 [0] (o_8 t8 (v_1 zr) (Lk.lend lkB) (a_0 0) (a_1 (a_0 2) a_6)))))
   (b_0 (i_6 [1] (d_8 (l_1 hu) (a_0 1) a_2 (d_7 _))
   (b_0 (p_6 (k_6 [2] (w_2 (i:=0) l7 (v_1 zr) lkB (c_5 (a_0 2) q_5)))))
   (b_0 (p_6 (k_6 [2,3] (w_2 (i:=0) m7 (v_1 zr) lkB (c_5 (a_0 2) (c_5 (a_0 3) q_5))))))))))))))) (HOk3.as_ (i:=5) u9 ag2 (fun e=>(b_0 (b_6 (i:=4) [5] (i_9 (a_1 q_2 (a_1 (by_5 ai7 (a_0 5)) (a_1 (x_9 (b_7 (ai_9 zr) aa_1 p6 (a_1 (a_0 5) a_6)) (ad_7 (ap_2 (ag_4 n6 (a_0 5) c8 (h_9 p9 (h_9 o8 an_7)))))) a_6)))) nd))) (HOk3.as_ (i:=5) o8 aa8 (fun e=>(b_0 (b_6 (i:=4) [5] (i_9 (a_1 q_2 (a_1 (by_5 ai7 (a_0 5)) (a_1 (x_9 (b_7 (ai_9 zr) aa_1 p6 (a_1 (a_0 5) a_6)) (ad_7 (ap_2 (ag_4 o6 (a_0 5) c8 (h_9 u9 (h_9 p9 an_7)))))) a_6)))) nd))) (HOk3.as_ (i:=5) p9 ac5 (fun e=>(b_0 (b_6 (i:=4) [5] (i_9 (a_1 q_2 (a_1 a_2 (a_1 (x_9 (b_7 (ai_9 zr) aa_1 p6 (a_1 (a_0 5) a_6)) (ad_7 (ap_2 (ag_4 n8 (a_0 5) c8 (h_9 u9 (h_9 o8 an_7)))))) a_6)))) nd))) .nil))))
  (b_0 (q_9 (m_5 [4] (a_0 4))))))
variable(af7:mg "sorted" =none)
def au_3(F:Fun K "kept" "Living.kept" (inC 35 2) f fd):FnX P w K mg base true 5 f fd ["self"] (spX K 1 c_0):=
 h_5 (N:= ["self"]) F fun zq zr hu nd zu=>(b_0 (d_0 [0] (bc_4 (N':= ["self", "key"]) zq (ax_7 (co_8 (cn_4 zq) (cn_3 zr) af7 x5 (o_5 j3 (a_0 0)))) rfl (by kernel_rfl) rfl (fun C s0 H0 fp pn=>⟨(gcM (i:=1)),br_9,(ad_8 (a_1 (a_0 1) (a_1 (bc_9 hu (o_5 j3 (a_0 0)) (a_0 1)) a_6)))⟩))))
def am_9(F:Fun K "table" "Living.table" (inC 35 3) f fd):FnX P w K mg base true 1 f fd ["self"] (spX K 1 c_4):=
 h_5 (N:= ["self"]) F fun zq zr hu nd zu=>(b_0 (d_0 [0] (ax_2 bi_1 rfl ab0 PyProof.Rows.boot_list (a_1 (o_5 l5 (a_0 0)) a_6))))
variable(n5:x_5 P w K mg base)(y1:ah_5 P w K mg base)(p7:FnRd P w K mg base true "_law_asked" 8 3 ["_law_living", "_law_way", "_law_key_here", "_law_value"] d_3)(j7:MethT P w K mg base true 5 0 "kept" [("Living",c_0)])(m8:MethT P w K mg base true 1 0 "table" [("Living",c_4)])
def au_4(F:Fun K "_law_refused" "_law_refused" (top 53) f fd):FnX P w K mg base true 9 f fd ["_law_living", "_law_kept", "_law_cell_here", "_law_sizes_here"] (spR K 3 e_6):=
 ar_7 (n:=3) (N:= ["_law_living", "_law_kept", "_law_cell_here", "_law_sizes_here", "_law_before", "_law_seed", "_law_value", "_law_key_here"]) F (by decide) (by decide) fun zq zr hu nd zu=>(a_4 (aa_9 (i:=4) (p_0 [0] (i_9 (a_1 (y_3 m8 zr (Lk.lend zu) (a_0 0)) (a_1 (y_3 j7 zr (Lk.lend zu) (a_0 0)) a_6)))) nd)
  (a_4 (b_6 (i:=5) [2] (b_7 zr zu i7 (a_1 (a_3 b_3 (a_0 2) a_2) (a_1 a_2 a_6))) nd)
  (a_4 (b_6 (i:=6) [3,5] (f_3 (i_9 (a_1 (a_3 b_3 (a_0 5) (f_3 (a_0 3) a_2)) (a_1 (b_7 zr zu n5 (a_1 (a_0 5) (a_1 (f_3 (a_0 3) a_2) a_6))) a_6))) (a_3 b_3 (a_3 g_0 (a_0 5) a_2) a_2)) nd)
  (a_4 (ar_6 (be_9 (ai_1 hu) (k_6 [5,6] (z_0 (i:=0) zr zu p7 (c_5 (a_3 b_3 (a_0 5) a_2) (c_5 (b_7 zr zu y1 (a_1 (b_7 zr zu i7 (a_1 (a_0 5) (a_1 a_2 a_6))) a_6)) (c_5 (a_0 6) q_5))))) (m_5 [] (i_9 (a_1 q_2 (a_1 a_2 (a_1 ak_3 a_6))))) (d_7 _))
   (b_0 (q_9 (m_5 [] ak_3)))
   e_8)
  (a_4 (b_6 (i:=7) [5] (b_7 zr zu x3 (a_1 (b_7 zr zu i7 (a_1 (a_0 5) (a_1 a_2 a_6))) a_6)) nd)
  (a_4 (i_6 [1,5] (td_w (bq_7 (d_8 (bm_9 hu) (a_0 1) ag_0 (d_7 _)) (bb_7 (d_8 (l_1 hu) (a_3 b_3 (a_3 g_0 (a_0 5) a_2) a_2) a_2 (d_7 _)))))
   (b_0 (b_6 (i:=7) [1,5] (f_3 (bn_0 zq ab0 (a_0 1)) (a_3 b_3 (a_3 g_0 (a_0 5) a_2) (d_1 o_4 rfl j6 PySem.boot_len (a_1 (a_0 1) a_6)))) nd))
   e_8)
  (a_4 (ar_6 (be_9 (ai_1 hu) (k_6 [3,5,7] (z_0 (i:=0) zr zu p7 (c_5 a_2 (c_5 (a_0 7) (c_5 (b_7 zr zu n5 (a_1 (b_7 zr zu i7 (a_1 (a_0 5) (a_1 a_2 a_6))) (a_1 (f_3 (a_0 3) a_2) a_6))) q_5))))) (m_5 [] (i_9 (a_1 q_2 (a_1 a_2 (a_1 ak_3 a_6))))) (d_7 _))
   (b_0 (q_9 (m_5 [] ak_3)))
   e_8)
  (a_4 (ar_6 (dj_1 (d_8 (aa_6 hu) (a_0 7) (a_0 1) (by with_unfolding_all rfl)) (be_9 (ai_1 hu) (k_6 [7] (z_0 (i:=0) zr zu p7 (c_5 a_2 (c_5 (a_0 7) (c_5 a_2 q_5))))) (m_5 [] (i_9 (a_1 q_2 (a_1 a_2 (a_1 ak_3 a_6))))) (d_7 _)))
   (b_0 (q_9 (m_5 [] ak_3)))
   e_8)
  (b_0 (q_9 (p_0 [0] (bb_6 (l_1 hu) (i_9 (a_1 (y_3 m8 zr (Lk.lend zu) (a_0 0)) (a_1 (y_3 j7 zr (Lk.lend zu) (a_0 0)) a_6))) (a_0 4) (d_7 _)))))))))))))
variable(ae9:Catches K c9 [("NoKey",false),("NoSuch",false),("NoValue",false),("Stuck",true)])
def bv_2(F:Fun K "_law_put" "_law_put" (top 48) f fd):FnX P w K mg base true 8 f fd ["_law_living", "_law_key_here", "_law_value"] (spR K 2 k_8):=
 ar_7 (n:=2) (N:= ["_law_living", "_law_key_here", "_law_value", "_law_found"]) F (by decide) (by decide) fun zq zr hu nd zu=>(a_4 (by_8 nd rfl rfl (fun zd W EXB lkB=>(b_0 (aa_9 (i:=3) (k_6 [1,2] (w_2 (i:=0) m7 (v_1 zr) lkB (c_5 (a_0 1) (c_5 (a_0 2) q_5)))) nd))) (HOk3.bare v7 ae9 (fun e=>(b_0 (b_6 (i:=3) [] q_2 nd))) .nil))
  (b_0 (q_9 (m_5 [3] (a_0 3)))))
def ae_9(F:Fun K "__init__" "Living.__init__" (inC 35 0) f fd){CI:Addr}(hCI:ClsAt K "Living" CI):FnX P w K mg base true 1 f fd ["self", "part", "salt", "modulus"] (spJ K CI "Living" 3 v_4):=
 dp_0 (n:=3) (cn:= "Living") (N:= ["self", "part", "salt", "modulus"]) F hCI (by decide) (by decide) fun zq zr hu nd zu=>(a_4 (an_4 (i:=0) [1] x9 (a_0 1))
  (a_4 (an_4 (i:=0) [2] r9 (a_0 2))
  (a_4 (an_4 (i:=0) [3] k6 (a_0 3))
  (a_4 (an_4 (i:=0) [1] l5 (dh_6 (a_1 a_2 a_6) (a_3 h_4 (v_8 rfl ag4) (a_0 1))))
  (b_0 (cy_7 (i:=0) j3 ag_0))))))
variable(z9:al_6 P w K mg base)(ab1:at_4 P w K mg base)(ab4:at_6 P w K mg base)(u6:FnRd P w K mg base true "_law_refused" 9 3 ["_law_living", "_law_kept", "_law_cell_here", "_law_sizes_here"] e_6)(ad7:FnRd P w K mg base true "_law_put" 8 2 ["_law_living", "_law_key_here", "_law_value"] k_8)(ad8:MakJ P w K mg base true "Living" 1 3 v_4)
def dl_2(F:Fun K "law" "law" (top 54) f fd):FnX P w K mg base true 10 f fd ["_law_script"] (spX K 1 dc_8):=
 h_5 (N:= ["_law_script", "_law_sizes_here", "_law_living", "_law_kept", "_law_k", "_law_cell_here", "_law_deed_here", "_law_key_here", "_law_value"]) F fun zq zr hu nd zu=>(a_4 (b_6 (i:=1) [0] (b_7 zr zu z9 (a_1 (a_0 0) (a_1 a_2 a_6))) nd)
  (a_4 (b_6 (i:=2) [1] (cy_8 zr zu ad8 (a_1 (f_3 (a_0 1) a_2) (a_1 (f_3 (a_0 1) a_2) (a_1 (f_3 (a_0 1) a_2) a_6)))) nd)
  (a_4 (b_6 (i:=3) [] ag_0 nd)
  (a_4 (ap_9 [0] l_5 zq (ai_2 y6 (a_1 (d_1 (aa_0 zq) rfl ae0 PyProof.Rows.boot_max (a_1 a_2 (a_1 (b_7 zr zu ab1 (a_1 (a_0 0) (a_1 a_2 (a_1 a_2 a_6)))) a_6))) a_6)) (bc_3 (i:=4) nd)
   (a_4 (b_6 (i:=5) [0,4] (b_7 zr zu v6 (a_1 (a_0 0) (a_1 (a_3 c_1 a_2 (a_0 4)) a_6))) nd)
  (a_4 (ar_6 (dj_0 (do_9 (k_6 [1,4,5] (cz_7 3 (z_0 (i:=2) zr zu u6 (c_5 (a_0 3) (c_5 (a_3 c_1 (a_0 5) (a_0 4)) (c_5 (a_0 1) q_5))))))))
   (b_0 (d_0 [] ak_3))
   e_8)
  (a_4 (cy_9 (p_0 [3] (b_7 zr (Lk.lend zu) ab4 (a_1 (a_0 0) (a_1 a_2 (a_1 (a_0 4) (a_1 (a_0 3) (a_1 (a_0 1) a_6))))))) (cy_0 zq (be_7 (i:=6) nd (be_7 (i:=7) nd (be_7 (i:=8) nd di_9)))))
  (b_0 (i_6 [3,6,7] (td_w (bq_7 (d_8 (l_1 hu) (a_0 6) a_2 (d_7 _)) (bb_7 (d_8 (bs_2 hu) (a_0 7) (a_0 3) (by with_unfolding_all rfl)))))
   (a_4 (p_6 (k_6 [7] (w_2 (i:=2) l7 zr zu (c_5 (a_0 7) q_5))))
  (b_0 (cz_1 (i:=3) (a_0 7))))
   (b_0 (ar_6 (be_9 (ai_1 hu) (k_6 [7,8] (z_0 (i:=2) zr zu ad7 (c_5 (a_0 7) (c_5 (a_0 8) q_5)))) (m_5 [] q_2) (d_7 _))
   (b_0 (bx_6 (i:=3) [8] hu (a_0 8) (a_0 7)))
   e_8))))))))
  (b_0 (d_0 [2,3] (bb_6 (l_1 hu) (d_1 k_0 rfl j6 PySem.boot_len (a_1 (y_3 j7 zr zu (a_0 2)) a_6)) (d_1 o_4 rfl j6 PySem.boot_len (a_1 (a_0 3) a_6)) (d_7 _))))))))
abbrev au_5:Stmt:=top 54
end
theorem dl_3{l:PySem.W.OpenLaw}{w:World}{K:Frag}{h:Heap}{mg:Str→Option Value}{fa:Addr}(X:K.In h)(G:h.Ns mainGlobals mg)(hfa:mg "law" =some (.ref fa))
  {d9 c7 a9 b9 c9 j8 j4 l8 j9 j2 l9 m6 i8:Addr}
  {f38:Addr} {ao3 an9:Option Addr} {ao4:Array (Option Value)} {ao2 an2 an3 ao1 am7 an6:Value}
  {ag7 al1 aa7 al5 am2:Tok}
  (d7:nsIn K mainGlobals "Living" =some (some (.ref d9)))
  (d8:Cls K d9)
  (ak3:makesIn K d9=true)
  (aj6:keepIn K (.ref d9)=true)
  (ad2:NoAttr K d9 "by_key")
  (ad5:NoAttr K d9 "listed")
  (af4:NoAttr K d9 "part")
  (ac1:NoAttr K d9 "modulus")
  (ac2:NoAttr K d9 "by_salt")
  (w1:FnTop K "_law_mix" (top 37))
  (w2:FnTop K "_law_cell" (top 38))
  (w3:FnTop K "_law_sizes" (top 45))
  (w4:FnTop K "_law_many" (top 46))
  (w5:FnTop K "_law_raw" (top 44))
  (w6:FnTop K "_law_text" (top 42))
  (w7:FnTop K "_law_key" (top 43))
  (w8:FnTop K "_law_deed" (top 47))
  (w9:FnTop K "_law_bad_value" (top 52))
  (w10:FnTop K "_law_no_key" (top 51))
  (w11:FnTop K "_law_alone" (top 49))
  (w12:FnTop K "is_key_text" (top 23))
  (w13:FnTop K "is_key" (top 24))
  (w14:FnTop K "worth" (top 25))
  (w15:FnTop K "stamp" (top 26))
  (w16:FnMet K d9 "drop" "Living.drop" (inC 35 10))
  (w17:FnTop K "is_below" (top 14))
  (w18:FnTop K "steps_to" (top 33))
  (w19:FnTop K "remainder" (top 16))
  (w20:FnMet K d9 "shift" "Living.shift" (inC 35 9))
  (w21:FnMet K d9 "mend" "Living.mend" (inC 35 8))
  (w22:FnTop K "mixed" (top 27))
  (w23:FnTop K "places_of" (top 29))
  (w24:FnMet K d9 "places" "Living.places" (inC 35 4))
  (w25:FnTop K "summed" (top 17))
  (w26:FnMet K d9 "value" "Living.value" (inC 35 1))
  (w27:FnTop K "ways_at" (top 32))
  (w28:FnMet K d9 "ways_without" "Living.ways_without" (inC 35 5))
  (w29:FnMet K d9 "put" "Living.put" (inC 35 7))
  (w30:FnTop K "keys_on_the_way" (top 34))
  (w31:FnMet K d9 "ring" "Living.ring" (inC 35 6))
  (w32:FnTop K "_law_asked" (top 50))
  (w33:FnMet K d9 "kept" "Living.kept" (inC 35 2))
  (w34:FnMet K d9 "table" "Living.table" (inC 35 3))
  (w35:FnTop K "_law_refused" (top 53))
  (w36:FnTop K "_law_put" (top 48))
  (w37:FnMet K d9 "__init__" "Living.__init__" (inC 35 0))
  (a38:nsIn K mainGlobals "law" =some (some (.ref f38))) (l38:K.lookup f38=some ⟨ao2,ao3, .func (fnOf "law" "law" (j_8 au_5) (f_4 au_5) (b_5 au_5) .none an2 an3 ao1 an9 am7 an6),ao4⟩) (c38:codeIn K am7 "law" =true) (k38:keepIn K (.ref f38)=true)
  (an7:nsIn K mainGlobals "len" =some none)
  (an8:nsIn K mainGlobals "max" =some none)
  (an4:nsIn K mainGlobals "min" =some none)
  (am3:nsIn K mainGlobals "range" =some none)
  (am6:nsIn K mainGlobals "list" =some none)
  (ah2:nsIn K mainGlobals "isinstance" =some none)
  (ah1:nsIn K mainGlobals "ValueError" =some none)
  (an5:nsIn K mainGlobals "all" =some none)
  (am8:nsIn K mainGlobals "bool" =some none)
  (an0:nsIn K mainGlobals "int" =some none)
  (an1:nsIn K mainGlobals "str" =some none)
  (ah7:nsIn K mainGlobals "enumerate" =some none)
  (am0:nsIn K mainGlobals "tuple" =some none)
  (ao0:nsIn K mainGlobals "sum" =some none)
  (ak7:nsIn K mainGlobals "sorted" =some none)
  (ai4:kitOne K (.type "NoneType") (.type "bool")=some false)
  (aj3:kitOne K (.type "bool") (.type "bool")=some true)
  (ai3:kitOne K (.type "int") (.type "bool")=some false)
  (ai0:kitOne K (.type "str") (.type "bool")=some false)
  (ai1:kitOne K (.type "list") (.type "bool")=some false)
  (ai2:kitOne K (.type "tuple") (.type "bool")=some false)
  (ak2:kitOne K (.type "NoneType") (.type "int")=some false)
  (al4:kitOne K (.type "bool") (.type "int")=some true)
  (ai9:kitOne K (.type "int") (.type "int")=some true)
  (aj5:kitOne K (.type "str") (.type "int")=some false)
  (ak1:kitOne K (.type "list") (.type "int")=some false)
  (ai8:kitOne K (.type "tuple") (.type "int")=some false)
  (aj1:kitOne K (.type "NoneType") (.type "str")=some false)
  (al0:kitOne K (.type "bool") (.type "str")=some false)
  (aj0:kitOne K (.type "int") (.type "str")=some false)
  (aj2:kitOne K (.type "str") (.type "str")=some true)
  (ak4:kitOne K (.type "list") (.type "str")=some false)
  (aj8:kitOne K (.type "tuple") (.type "str")=some false)
  (ah0:nsIn K mainGlobals "MOST_SIGNS" =some (some (.int 11 ag7)))
  (am1:nsIn K mainGlobals "SIGNS" =some (some (.str "abcdefghijklmnopqrstuvwxyz0123456789-_ " al1)))
  (ac3:nsIn K mainGlobals "GREATEST_NUMBER" =some (some (.int 999999999999999999 aa7)))
  (al9:nsIn K mainGlobals "PRIME" =some (some (.int 2305843009213693951 al5)))
  (am5:nsIn K mainGlobals "KIND" =some (some (.int 2 am2)))
  (k4:nsIn K mainGlobals "NoKey" =some (some (.ref c7)))
  (i6:nsIn K mainGlobals "NoValue" =some (some (.ref a9)))
  (j5:nsIn K mainGlobals "NoSuch" =some (some (.ref b9)))
  (k8:nsIn K mainGlobals "Stuck" =some (some (.ref c9)))
  (aj7:nsIn K mainGlobals "NoBits" =some (some (.ref j8)))
  (ai5:nsIn K mainGlobals "NoEdges" =some (some (.ref j4)))
  (ak6:nsIn K mainGlobals "NoFit" =some (some (.ref l8)))
  (aj9:nsIn K mainGlobals "NoKeys" =some (some (.ref j9)))
  (ai6:nsIn K mainGlobals "NoRange" =some (some (.ref j2)))
  (al7:nsIn K mainGlobals "NoTry" =some (some (.ref l9)))
  (ak9:nsIn K mainGlobals "Twice" =some (some (.ref m6)))
  (ag6:nsIn K mainGlobals "LodgeError" =some (some (.ref i8)))
  (ah9:XB K c7 "NoKey.__init__" "at" x_1)
  (l6:XInst K c7)
  (af3:exmOne K (.ref c7) (.ref c7)=some true)
  (ad1:exmOne K (.ref c7) (.ref a9)=some false)
  (ae1:exmOne K (.ref c7) (.ref b9)=some false)
  (af0:exmOne K (.ref c7) (.ref c9)=some false)
  (aa3:kitOne K (.ref c7) (.ref i8)=some true)
  (aa4:kitOne K (.ref c7) (.type "ValueError")=some true)
  (g9:kitAny K (.ref c7) [.ref j8, .ref j4, .ref l8, .ref j9, .ref j2, .ref l9, .ref c9, .ref m6]=some false)
  (v5:kitAny K (.ref c7) [.ref b9, .ref a9]=some false)
  (y9:kitAny K (.ref c7) [.ref c7, .ref b9]=some true)
  (y3:kitAny K (.ref c7) [.ref c7, .ref a9]=some true)
  (af9:XB K a9 "NoValue.__init__" "at" s_5)
  (i9:XInst K a9)
  (ad3:exmOne K (.ref a9) (.ref c7)=some false)
  (ab3:exmOne K (.ref a9) (.ref a9)=some true)
  (ab6:exmOne K (.ref a9) (.ref b9)=some false)
  (ac9:exmOne K (.ref a9) (.ref c9)=some false)
  (y7:kitOne K (.ref a9) (.ref i8)=some true)
  (y8:kitOne K (.ref a9) (.type "ValueError")=some true)
  (f6:kitAny K (.ref a9) [.ref j8, .ref j4, .ref l8, .ref j9, .ref j2, .ref l9, .ref c9, .ref m6]=some false)
  (u0:kitAny K (.ref a9) [.ref b9, .ref a9]=some true)
  (x4:kitAny K (.ref a9) [.ref c7, .ref b9]=some false)
  (u5:kitAny K (.ref a9) [.ref c7, .ref a9]=some true)
  (ak0:XB9 K b9)
  (o7:XInst K b9)
  (ae5:exmOne K (.ref b9) (.ref c7)=some false)
  (ab8:exmOne K (.ref b9) (.ref a9)=some false)
  (ad0:exmOne K (.ref b9) (.ref b9)=some true)
  (ae3:exmOne K (.ref b9) (.ref c9)=some false)
  (aa2:kitOne K (.ref b9) (.ref i8)=some true)
  (z8:kitOne K (.ref b9) (.type "ValueError")=some true)
  (f7:kitAny K (.ref b9) [.ref j8, .ref j4, .ref l8, .ref j9, .ref j2, .ref l9, .ref c9, .ref m6]=some false)
  (u1:kitAny K (.ref b9) [.ref b9, .ref a9]=some true)
  (y2:kitAny K (.ref b9) [.ref c7, .ref b9]=some true)
  (x0:kitAny K (.ref b9) [.ref c7, .ref a9]=some false)
  (al3:XB9 K c9)
  (p8:XInst K c9)
  (af2:exmOne K (.ref c9) (.ref c7)=some false)
  (ac7:exmOne K (.ref c9) (.ref a9)=some false)
  (ae2:exmOne K (.ref c9) (.ref b9)=some false)
  (ae7:exmOne K (.ref c9) (.ref c9)=some true)
  (aa5:kitOne K (.ref c9) (.ref i8)=some true)
  (aa6:kitOne K (.ref c9) (.type "ValueError")=some true)
  (f9:kitAny K (.ref c9) [.ref j8, .ref j4, .ref l8, .ref j9, .ref j2, .ref l9, .ref c9, .ref m6]=some true)
  (v9:kitAny K (.ref c9) [.ref b9, .ref a9]=some false)
  (z6:kitAny K (.ref c9) [.ref c7, .ref b9]=some false)
  (x8:kitAny K (.ref c9) [.ref c7, .ref a9]=some false):
  ∃fd:FuncData,(∀(s:Shared) (v:Value),BindsTo s fd ⟨[v], []⟩ [("_law_script",v)])∧∀base:Heap,K.In base→base.Ns mainGlobals mg→FnOk l.prog w K mg base CX0 10 fa fd ["_law_script"] (aq_5 K):=by
 have aj4:=mg_of X G d7;have j3:OFld K ["Living"] "by_key" :=(.one d7 d8 ad2 .nil);have l5:OFld K ["Living"] "listed" :=(.one d7 d8 ad5 .nil);have x9:OFld K ["Living"] "part" :=(.one d7 d8 af4 .nil);have k6:OFld K ["Living"] "modulus" :=(.one d7 d8 ac1 .nil);have r9:OFld K ["Living"] "by_salt" :=(.one d7 d8 ac2 .nil);have u9:=mg_of X G k4;have o8:=mg_of X G i6;have p9:=mg_of X G j5;have v7:=mg_of X G k8;have ac4:=mg_of X G aj7;have aa9:=mg_of X G ai5;have ag5:=mg_of X G ak6;have ac8:=mg_of X G aj9;have ab2:=mg_of X G ai6;have af8:=mg_of X G al7;have af5:=mg_of X G ak9;have u4:=mg_of X G ag6;have ad9:XC0 K mg "NoSuch" b9:=cn_8 j5 p9 ak0;have ag0:XC0 K mg "Stuck" c9:=cn_8 k8 v7 al3;have ag2:Catches K c7 [("NoKey",true),("NoSuch",false),("NoValue",false),("Stuck",false)]:=(.one k4 af3 (.one j5 ae5 (.one i6 ad3 (.one k8 af2 .nil))));have aa8:Catches K a9 [("NoKey",false),("NoSuch",false),("NoValue",true),("Stuck",false)]:=(.one k4 ad1 (.one j5 ab8 (.one i6 ab3 (.one k8 ac7 .nil))));have ac5:Catches K b9 [("NoKey",false),("NoSuch",true),("NoValue",false),("Stuck",false)]:=(.one k4 ae1 (.one j5 ad0 (.one i6 ab6 (.one k8 ae2 .nil))));have ae9:Catches K c9 [("NoKey",false),("NoSuch",false),("NoValue",false),("Stuck",true)]:=(.one k4 af0 (.one j5 ae3 (.one i6 ac9 (.one k8 ae7 .nil))));have u3:IsOne K (.ref i8) [("NoKey",true),("NoSuch",true),("NoValue",true),("Stuck",true)]:=(.one k4 l6 aa3 (.one j5 o7 aa2 (.one i6 i9 y7 (.one k8 p8 aa5 .nil))));have r6:IsOne K (.type "ValueError") [("NoKey",true),("NoSuch",true),("NoValue",true),("Stuck",true)]:=(.one k4 l6 aa4 (.one j5 o7 z8 (.one i6 i9 y8 (.one k8 p8 aa6 .nil))));have c6:IsAny K [j8,j4,l8,j9,j2,l9,c9,m6] [("NoKey",false),("NoSuch",false),("NoValue",false),("Stuck",true)]:=(IsAny.one (v:= [j8,j4,l8,j9,j2,l9,c9,m6]) k4 l6 g9 (IsAny.one (v:= [j8,j4,l8,j9,j2,l9,c9,m6]) j5 o7 f7 (IsAny.one (v:= [j8,j4,l8,j9,j2,l9,c9,m6]) i6 i9 f6 (IsAny.one (v:= [j8,j4,l8,j9,j2,l9,c9,m6]) k8 p8 f9 .nil))));have n6:IsAny K [b9,a9] [("NoKey",false),("NoSuch",true),("NoValue",true),("Stuck",false)]:=(IsAny.one (v:= [b9,a9]) k4 l6 v5 (IsAny.one (v:= [b9,a9]) j5 o7 u1 (IsAny.one (v:= [b9,a9]) i6 i9 u0 (IsAny.one (v:= [b9,a9]) k8 p8 v9 .nil))));have o6:IsAny K [c7,b9] [("NoKey",true),("NoSuch",true),("NoValue",false),("Stuck",false)]:=(IsAny.one (v:= [c7,b9]) k4 l6 y9 (IsAny.one (v:= [c7,b9]) j5 o7 y2 (IsAny.one (v:= [c7,b9]) i6 i9 x4 (IsAny.one (v:= [c7,b9]) k8 p8 z6 .nil))));have n8:IsAny K [c7,a9] [("NoKey",true),("NoSuch",false),("NoValue",true),("Stuck",false)]:=(IsAny.one (v:= [c7,a9]) k4 l6 y3 (IsAny.one (v:= [c7,a9]) j5 o7 x0 (IsAny.one (v:= [c7,a9]) i6 i9 u5 (IsAny.one (v:= [c7,a9]) k8 p8 x8 .nil))));have ai7:XGets K ["NoKey", "NoValue"] "at" :=(.one k4 ⟨l6.ga,l6.gt,l6.be,l6.hd,ah9.2.2.1⟩ (.one i6 ⟨i9.ga,i9.gt,i9.be,i9.hd,af9.2.2.1⟩ .nil));have e:=hfa.symm.trans (mg_of X G a38);cases e;have j6:=mg_none_of X G an7;have ae0:=mg_none_of X G an8;have ak8:=mg_none_of X G an4;have y6:=mg_none_of X G am3;have ab0:=mg_none_of X G am6;have c8:=mg_none_of X G ah2;have x6:=mg_none_of X G ah1;have al2:=mg_none_of X G an5;have af6:=mg_none_of X G am8;have ak5:=mg_none_of X G an0;have ah8:=mg_none_of X G an1;have z7:=mg_none_of X G ah7;have ah6:=mg_none_of X G am0;have al6:=mg_none_of X G ao0;have af7:=mg_none_of X G ak7;have aa0:KitT K "bool" :=⟨ai4,aj3,ai3,ai0,ai1,ai2⟩;have ah3:KitT K "int" :=⟨ak2,al4,ai9,aj5,ak1,ai8⟩;have ab7:KitT K "str" :=⟨aj1,al0,aj0,aj2,ak4,aj8⟩;have y4:=mg_of X G ah0;have ac0:=mg_of X G am1;have n9:=mg_of X G ac3;have ab5:=mg_of X G al9;have ag4:=mg_of X G am5;have F38:=bq_5 (st:=au_5) l38 c38 k38;refine⟨fnOf "law" "law" (j_8 au_5) (f_4 au_5) (b_5 au_5) .none an2 an3 ao1 an9 am7 an6,fun s v=> .of_eq rfl,fun base _ _=> ?_⟩
 let lMd:=MethD l.prog w K mg base true
 let lMt:=MethT l.prog w K mg base true
 let lMk:=MakD l.prog w K mg base true
 let lXC:=XC l.prog w K mg base
 let lT:=fun t:Program→World→Frag→(Str→Option Value)→Heap→Prop=>t l.prog w K mg base
 have ah5:lXC "NoKey" "at" c7:=dc_5 k4 u9 ah9 fun F y z=>⟨av_6 F y z,bn2 F⟩;have ad6:lXC "NoValue" "at" a9:=dc_5 i6 o8 af9 fun F y z=>⟨am_6 F y z,bn2 F⟩;have i7:lT ba_1:=g_9 X G w1 fun F=>⟨bu_8 F,bn2 F⟩;have k7:lT at_3:=g_9 X G w2 fun F=>⟨bo_6 i7 j6 F,bn2 F⟩;have z9:lT al_6:=g_9 X G w3 fun F=>⟨bg_2 i7 k7 F,bn2 F⟩;have ab1:lT at_4:=g_9 X G w4 fun F=>⟨bo_7 j6 k7 ae0 ak8 F,bn3 F⟩;have v6:lT ba_2:=g_9 X G w5 fun F=>⟨bu_9 i7 j6 k7 F,bn2 F⟩;have o9:lT at_5:=g_9 X G w6 fun F=>⟨bo_8 y6 F,bn1 F⟩;have x3:lT ba_3:=g_9 X G w7 fun F=>⟨bv_0 o9 F,bn1 F⟩;have ab4:lT at_6:=g_9 X G w8 fun F=>⟨bo_9 i7 j6 k7 ae0 v6 x3 ab0 F,bn5 F⟩;have n5:lT x_5:=g_9 X G w9 fun F=>⟨aj_9 F,bn2 F⟩;have y1:lT ah_5:=g_9 X G w10 fun F=>⟨av_7 j6 o9 F,bn1 F⟩;have p6:lT al_7:=g_9 X G w11 fun F=>⟨bg_3 c8 x6 ac4 aa9 ag5 ac8 ab2 af8 v7 af5 u4 u3 r6 c6 F,bn1 F⟩;have u7:lT ad_5:=g_9 X G w12 fun F=>⟨at_9 j6 al2 y4 ac0 F,bn1 F⟩;have ag1:lT bo_4:=g_9 X G w13 fun F=>⟨ch_7 c8 u7 af6 ak5 ah8 aa0 ah3 ab7 n9 F,bn1 F⟩;have ag8:lT cb_4:=g_9 X G w14 fun F=>⟨cs_3 ac0 F,bn1 F⟩;have x5:lT cb_5:=g_9 X G w15 fun F=>⟨cs_4 c8 ah8 ab7 ag1 ag8 ah5 F,bn1 F⟩;have l7:MethR l.prog w K mg base true 4 1 "drop" "Living" b_8:=bz_5 d7 d8 w16 fun F=>⟨au_0 x5 j3 ad9 F,bn2 F⟩;have t7:lT at_7:=g_9 X G w17 fun F=>⟨bp_0 c8 af6 aa0 F,bn2 F⟩;have p4:lT at_8:=g_9 X G w18 fun F=>⟨bp_1 j6 F,bn2 F⟩;have p5:lT al_8:=g_9 X G w19 fun F=>⟨bg_4 F,bn2 F⟩;have m9:MethR l.prog w K mg base true 2 3 "shift" "Living" d_2:=bz_5 d7 d8 w20 fun F=>⟨am_7 p5 l5 x9 k6 z7 F,bn4 F⟩;have t9:MethR l.prog w K mg base true 3 3 "mend" "Living" g_5:=bz_5 d7 d8 w21 fun F=>⟨au_1 j6 p4 m9 ag0 F,bn4 F⟩;have ah4:lT cb_6:=g_9 X G w22 fun F=>⟨cs_5 ab5 F,bn3 F⟩;have aa1:lT al_9:=g_9 X G w23 fun F=>⟨bg_5 y6 x5 ah4 ah6 F,bn4 F⟩;have ad4:lMd 5 1 "places" "Living" b_1:=ay_6 d7 d8 w24 fun F=>⟨ak_0 x9 aa1 r9 ag4 F,bn2 F⟩;have ae8:lT bo_5:=g_9 X G w25 fun F=>⟨ch_8 j6 p5 t7 al6 F,bn3 F⟩;have d6:lMt 5 1 "places" [("Living",b_1)]:=(mto ad4 mtn);have ae6:lMd 6 1 "value" "Living" c_6:=ay_6 d7 d8 w26 fun F=>⟨am_8 l5 k6 ae8 d6 F,bn2 F⟩;have ac6:lT ba_4:=g_9 X G w27 fun F=>⟨bv_1 F,bn1 F⟩;have y0:lMd 6 1 "ways_without" "Living" b_2:=ay_6 d7 d8 w28 fun F=>⟨x_2 j3 d6 ac6 F,bn2 F⟩;have k9:lMt 6 1 "value" [("Living",c_6)]:=(mto ae6 mtn);have f8:lMt 6 1 "ways_without" [("Living",b_2)]:=(mto y0 mtn);have m7:MethR l.prog w K mg base true 7 2 "put" "Living" c_3:=bz_5 d7 d8 w29 fun F=>⟨av_8 j3 k6 t7 d6 t9 k9 f8 ad6 F,bn3 F⟩;have o5:lT t_6:=g_9 X G w30 fun F=>⟨ae_8 F,bn2 F⟩;have af1:lMd 7 1 "ring" "Living" g_6:=ay_6 d7 d8 w31 fun F=>⟨au_2 p4 d6 f8 o5 F,bn2 F⟩;have t8:lMt 7 1 "ring" [("Living",g_6)]:=(mto af1 mtn);have p7:FnRd l.prog w K mg base true "_law_asked" 8 3 ["_law_living", "_law_way", "_law_key_here", "_law_value"] d_3:=bf_1 X G w32 fun F=>⟨bg_6 c8 d6 k9 p6 l7 m7 t8 u9 p9 o8 ag2 aa8 ac5 n6 o6 n8 ai7 F,bn4 F⟩;have ag3:lMd 5 0 "kept" "Living" c_0:=ay_6 d7 d8 w33 fun F=>⟨au_3 x5 j3 af7 F,bn1 F⟩;have ae4:lMd 1 0 "table" "Living" c_4:=ay_6 d7 d8 w34 fun F=>⟨am_9 ab0 l5 F,bn1 F⟩;have j7:lMt 5 0 "kept" [("Living",c_0)]:=(mto ag3 mtn);have m8:lMt 1 0 "table" [("Living",c_4)]:=(mto ae4 mtn);have u6:FnRd l.prog w K mg base true "_law_refused" 9 3 ["_law_living", "_law_kept", "_law_cell_here", "_law_sizes_here"] e_6:=bf_1 X G w35 fun F=>⟨au_4 i7 j6 x3 ab0 n5 y1 p7 j7 m8 F,bn4 F⟩;have ad7:FnRd l.prog w K mg base true "_law_put" 8 2 ["_law_living", "_law_key_here", "_law_value"] k_8:=bf_1 X G w36 fun F=>⟨bv_2 v7 m7 ae9 F,bn3 F⟩;have ad8:MakJ l.prog w K mg base true "Living" 1 3 v_4:=dj_3 d7 aj4 ak3 aj6 w37 fun F=>⟨ae_9 j3 l5 x9 k6 r9 ag4 F d7,bn4 F⟩;exact dh_2 (dl_2 (P:=l.prog) (w:=w) (base:=base) j6 ae0 y6 v6 l7 j7 z9 ab1 ab4 u6 ad7 ad8 F38) cs_2
end My


open PySem PySem.W PyProof.Rows
set_option maxRecDepth 100000 in
set_option maxHeartbeats 0 in
theorem PySem.Challenge.cw_lodge_k74_living_refused_holds : PySem.Challenge.rw_lodge_k74_living_refused.Holds := by
 w_on; o_law; k_head; (case hw => w_witness2)
 k_fill
 refine L3.do_4 (l := PySem.Challenge.rw_lodge_k74_living_refused) (x := "_law_script") (k := 10) rfl rfl ⟨rfl, by decide, by decide⟩ (fun w h Y => PySem.W.kIn_of Y) ?F
 case F =>
  intro w mg fa h KX G hmg
  refine' My.dl_3 KX G hmg ?c1 ?c2 ?c3 ?c4 ?c5 ?c6 ?c7 ?c8 ?c9 ?c10 ?c11 ?c12 ?c13 ?c14 ?c15 ?c16 ?c17 ?c18 ?c19 ?c20 ?c21 ?c22 ?c23 ?c24 ?c25 ?c26 ?c27 ?c28 ?c29 ?c30 ?c31 ?c32 ?c33 ?c34 ?c35 ?c36 ?c37 ?c38 ?c39 ?c40 ?c41 ?c42 ?c43 ?c44 ?c45 ?c46 ?c47 ?c48 ?c49 ?c50 ?c51 ?c52 ?c53 ?c54 ?c55 ?c56 ?c57 ?c58 ?c59 ?c60 ?c61 ?c62 ?c63 ?c64 ?c65 ?c66 ?c67 ?c68 ?c69 ?c70 ?c71 ?c72 ?c73 ?c74 ?c75 ?c76 ?c77 ?c78 ?c79 ?c80 ?c81 ?c82 ?c83 ?c84 ?c85 ?c86 ?c87 ?c88 ?c89 ?c90 ?c91 ?c92 ?c93 ?c94 ?c95 ?c96 ?c97 ?c98 ?c99 ?c100 ?c101 ?c102 ?c103 ?c104 ?c105 ?c106 ?c107 ?c108 ?c109 ?c110 ?c111 ?c112 ?c113 ?c114 ?c115 ?c116 ?c117 ?c118 ?c119 ?c120 ?c121 ?c122 ?c123 ?c124 ?c125 ?c126 ?c127 ?c128 ?c129 ?c130 ?c131 ?c132 ?c133 ?c134 ?c135 ?c136 ?c137 ?c138 ?c139 ?c140 ?c141 ?c142 ?c143 ?c144 ?c145 ?c146 ?c147 ?c148
  (case c1 | c3 | c4 | c47 | c48 | c49 | c50 | c51 | c52 | c53 | c54 | c55 | c56 | c57 | c58 | c59 | c60 | c61 | c62 | c63 | c64 | c65 | c84 | c85 | c86 | c87 | c88 | c89 | c90 | c91 | c92 | c93 | c94 | c95 | c96 | c97 | c98 | c99 | c100 => k_is)
  (case c2 => (refine' L2.Cls.mk ?z0 ?z1 ?z2 ?z3; (case z0 => k_is); (case z1 => k_is); (case z2 => k_is); (case z3 => k_is)))
  (case c5 | c6 | c7 | c8 | c9 => (refine' L3.NoAttr.mk ?z0; (case z0 => k_is)))
  (case c10 | c11 | c12 | c13 | c14 | c15 | c16 | c17 | c18 | c19 | c20 | c21 | c22 | c23 | c24 | c26 | c27 | c28 | c31 | c32 | c34 | c36 | c39 | c41 | c44 | c45 => (refine' L3.FnTop.mk ?a ?l ?c ?k; (case a => k_is); (case l => k_is); (case c => k_is); (case k => k_is)))
  (case c25 | c29 | c30 | c33 | c35 | c37 | c38 | c40 | c42 | c43 | c46 => (refine' L3.FnMet.mk ?a ?l ?c ?k ?i; (case a => k_is); (case l => k_is); (case c => k_is); (case k => k_is); (case i => k_is)))
  (case c66 | c67 | c68 | c69 | c70 | c71 | c72 | c73 | c74 | c75 | c76 | c77 | c78 | c79 | c80 | c81 | c82 | c83 | c107 | c108 | c109 | c110 | c111 | c112 | c119 | c120 | c121 | c122 | c123 | c124 | c131 | c132 | c133 | c134 | c135 | c136 | c143 | c144 | c145 | c146 | c147 | c148 => kit_is)
  (case c101 | c113 => (refine' L3.XB.mk ?z0 ?z1 ?z2 ?z3 ?z4 ?z5 ?z6 ?z7 ?z8 ?z9 ?z10 ?z11 ?z12 ?z13 ?z14; (case z0 => k_is); (case z1 => k_is); (case z2 => k_is); (case z3 => rfl); (case z4 => rfl); (case z5 => k_is); (case z6 => k_is); (case z7 => rfl); (case z8 => rfl); (case z9 => k_is); (case z10 => k_is); (case z11 => k_is); (case z12 => k_is); (case z13 => k_is); (case z14 => k_is)))
  (case c102 | c114 | c126 | c138 => (refine' L3.XInst.mk ?z0 ?z1 ?z2 ?z3 ?z4 ?z5 ?z6 ?z7; (case z0 => k_is); (case z1 => k_is); (case z2 => k_is); (case z3 => k_is); (case z4 => k_is); (case z5 => k_is); (case z6 => k_is); (case z7 => k_is)))
  (case c103 | c104 | c105 | c106 | c115 | c116 | c117 | c118 | c127 | c128 | c129 | c130 | c139 | c140 | c141 | c142 => kts_exm)
  (case c125 | c137 => (refine' L3.XB0 ?z0 ?z1 ?z2 ?z3 ?z4 ?z5 ?z6 ?z7 ?z8; (case z0 => k_is); (case z1 => k_is); (case z2 => rfl); (case z3 => rfl); (case z4 => k_is); (case z5 => k_is); (case z6 => rfl); (case z7 => rfl); (case z8 => k_is)))

end
